/-
  Texts of this claim.
-/
import Derived.Test.YteefpaiefphdpaaDoorGJ2
namespace Go.Proofs.YteefpaiefphdpaaDoor
open Go.RowKit
theorem allD_stop {x : UInt8} {s l : List UInt8} {m : Nat} (hx : x ≠ 10) (h : 254 < l.length + 1) : allD (x :: s) l m = ⟨[], [], 4⟩ := by
  show (if x ≠ 10 then _ else _) = _; rw [if_pos hx, if_pos h]
theorem allD_more {x : UInt8} {s l : List UInt8} {m : Nat} (hx : x ≠ 10) (h : ¬ 254 < l.length + 1) : allD (x :: s) l m = allD s (l ++ [x]) m := by
  show (if x ≠ 10 then _ else _) = _; rw [if_pos hx, if_neg h]
theorem allD_end {s l : List UInt8} {m : Nat} : allD (10 :: s) l m = if (crB l).contains 0 then ⟨[], [], 3⟩
    else if begB sshP (crB l) then (if verB (crB l) then ⟨crB l, s, 0⟩ else ⟨[], [], 12⟩)
    else if m = 0 then ⟨[], [], 12⟩
    else allD s [] (m - 1) := by
  show (if (10 : UInt8) ≠ 10 then _ else _) = _; rw [if_neg (by simp)]
theorem drop_get {s : List UInt8} {i : Nat} (h : i < s.length) : s.drop i = s.getD i 0 :: s.drop (i + 1) := by
  rw [List.drop_eq_getElem_cons h, List.getD_eq_getElem?_getD, List.getElem?_eq_getElem h]; rfl
/-- Where the reference is: a line so far, a place, how many others may still come. -/
structure RI11 (s : List UInt8) (m0 : Nat) where
  l : List UInt8
  i : Nat
  m : Nat
  f : allD s [] m0 = allD (s.drop i) l m
  hi : i ≤ s.length
  hl : l.length ≤ 254
  hm : m ≤ 16
theorem RI11.cons {s : List UInt8} {m0 : Nat} (q : RI11 s m0) (h : q.i < s.length) : allD s [] m0 = allD (s.getD q.i 0 :: s.drop (q.i + 1)) q.l q.m := by rw [q.f, drop_get h]
def RI11.text {s : List UInt8} {m0 : Nat} (q : RI11 s m0) (h : q.i < s.length) (hx : s.getD q.i 0 ≠ 10) (hl : ¬ 254 < q.l.length + 1) : RI11 s m0 :=
  ⟨q.l ++ [s.getD q.i 0], q.i + 1, q.m, (q.cons h).trans (allD_more hx hl), h, by rw [List.length_append, List.length_singleton]; omega, q.hm⟩
theorem RI11.big {s : List UInt8} {m0 : Nat} (q : RI11 s m0) (h : q.i < s.length) (hx : s.getD q.i 0 ≠ 10) (hl : 254 < q.l.length + 1) : allD s [] m0 = ⟨[], [], 4⟩ := (q.cons h).trans (allD_stop hx hl)
theorem RI11.fin {s : List UInt8} {m0 : Nat} (q : RI11 s m0) (h : ¬ q.i < s.length) : allD s [] m0 = ⟨[], [], 0⟩ := by rw [q.f, List.drop_of_length_le (by omega)]; rfl
theorem RI11.line {s : List UInt8} {m0 : Nat} (q : RI11 s m0) (h : q.i < s.length) (hx : s.getD q.i 0 = 10) : allD s [] m0 = if (crB q.l).contains 0 then ⟨[], [], 3⟩
    else if begB sshP (crB q.l) then (if verB (crB q.l) then ⟨crB q.l, s.drop (q.i + 1), 0⟩ else ⟨[], [], 12⟩)
    else if q.m = 0 then ⟨[], [], 12⟩
    else allD (s.drop (q.i + 1)) [] (q.m - 1) := by
  rw [q.cons h, hx, allD_end]
theorem RI11.zero {s : List UInt8} {m0 : Nat} (q : RI11 s m0) (h : q.i < s.length) (hx : s.getD q.i 0 = 10) (h0 : (crB q.l).contains 0 = true) : allD s [] m0 = ⟨[], [], 3⟩ := by rw [q.line h hx, if_pos h0]
theorem RI11.ver {s : List UInt8} {m0 : Nat} (q : RI11 s m0) (h : q.i < s.length) (hx : s.getD q.i 0 = 10) (h0 : (crB q.l).contains 0 = false) (h1 : begB sshP (crB q.l) = true) (h2 : verB (crB q.l) = true) : allD s [] m0 = ⟨crB q.l, s.drop (q.i + 1), 0⟩ := by
  rw [q.line h hx, if_neg (by rw [h0]; simp), if_pos h1, if_pos h2]
theorem RI11.nover {s : List UInt8} {m0 : Nat} (q : RI11 s m0) (h : q.i < s.length) (hx : s.getD q.i 0 = 10) (h0 : (crB q.l).contains 0 = false) (h1 : begB sshP (crB q.l) = true) (h2 : verB (crB q.l) = false) : allD s [] m0 = ⟨[], [], 12⟩ := by
  rw [q.line h hx, if_neg (by rw [h0]; simp), if_pos h1, if_neg (by rw [h2]; simp)]
theorem RI11.none {s : List UInt8} {m0 : Nat} (q : RI11 s m0) (h : q.i < s.length) (hx : s.getD q.i 0 = 10) (h0 : (crB q.l).contains 0 = false) (h1 : begB sshP (crB q.l) = false) (h2 : q.m = 0) : allD s [] m0 = ⟨[], [], 12⟩ := by
  rw [q.line h hx, if_neg (by rw [h0]; simp), if_neg (by rw [h1]; simp), if_pos h2]
def RI11.next {s : List UInt8} {m0 : Nat} (q : RI11 s m0) (h : q.i < s.length) (hx : s.getD q.i 0 = 10) (h0 : (crB q.l).contains 0 = false) (h1 : begB sshP (crB q.l) = false) (h2 : ¬ q.m = 0) : RI11 s m0 :=
  ⟨[], q.i + 1, q.m - 1, by rw [q.line h hx, if_neg (by rw [h0]; simp), if_neg (by rw [h1]; simp), if_neg h2], h, Nat.zero_le _, Nat.le_trans (Nat.sub_le _ _) q.hm⟩
/-- What follows a version's beginning, and whether it has one. -/
def rR (l : List UInt8) : List UInt8 := if begB ssh2 l then l.drop 8 else if begB ssh1 l then l.drop 9 else []
def okR (l : List UInt8) : Bool := begB ssh2 l || begB ssh1 l
theorem ver_rR (l : List UInt8) : verB l = (okR l && softOk (cutB 32 (rR l))) := by
  unfold verB okR restB rR
  cases h2 : begB ssh2 l <;> cases h1 : begB ssh1 l <;> simp
theorem rR_le (l : List UInt8) : (rR l).length ≤ l.length := by
  unfold rR
  split
  · simp
  · split <;> simp
theorem con_step {l : List UInt8} {j : Nat} {c : UInt8} (hj : j < l.length) (hq : (l.take j).contains c = false) (h : ¬ l.getD j 0 = c) : (l.take (j + 1)).contains c = false := by
  rw [List.take_succ_eq_append_getElem hj, con_app, hq]
  rw [List.getD_eq_getElem?_getD, List.getElem?_eq_getElem hj] at h
  rw [Bool.false_or, List.contains_cons, Bool.or_eq_false_iff]
  exact ⟨beq_eq_false_iff_ne.2 (fun e => h e.symm), rfl⟩
theorem con_hit {l : List UInt8} {j : Nat} {c : UInt8} (hj : j < l.length) (h : l.getD j 0 = c) : l.contains c = true := by
  rw [List.contains_iff_mem, ← h, List.getD_eq_getElem?_getD, List.getElem?_eq_getElem hj]
  exact List.getElem_mem hj
theorem con_all {l : List UInt8} {j : Nat} {c : UInt8} (hj : ¬ j < l.length) (hq : (l.take j).contains c = false) : l.contains c = false := by
  rwa [List.take_of_length_le (by omega)] at hq
theorem cut_at {l : List UInt8} {j : Nat} {c : UInt8} (hq : (l.take j).contains c = false) (h : ¬ j < l.length ∨ l.getD j 0 = c) (hj : j ≤ l.length) : l.take j = cutB c l := by
  by_cases hl : j < l.length
  · have hc : l.getD j 0 = c := h.resolve_left (fun e => e hl)
    have e : l = l.take j ++ c :: l.drop (j + 1) := by rw [← hc, ← drop_get hl, List.take_append_drop]
    conv => rhs; rw [e]
    exact (cut_app c _ _ hq).symm
  · rw [cut_none c l (con_all hl hq), List.take_of_length_le (by omega)]
theorem crB_last1 {l : List UInt8} (h0 : 0 < l.length) (h : l.getD (l.length - 1) 0 = 13) : crB l = l.take (l.length - 1) := by
  refine crB_y ?_
  rw [List.getLast?_eq_getElem?]
  rw [List.getD_eq_getElem?_getD, List.getElem?_eq_getElem (show l.length - 1 < l.length by omega)] at h
  rw [List.getElem?_eq_getElem (show l.length - 1 < l.length by omega)]
  exact congrArg some h
theorem crB_last0 {l : List UInt8} (h : l = [] ∨ ¬ l.getD (l.length - 1) 0 = 13) : crB l = l := by
  refine crB_n ?_
  rcases h with rfl | h
  · simp
  · intro e
    refine h ?_
    rw [List.getLast?_eq_getElem?] at e
    rw [List.getD_eq_getElem?_getD, e]; rfl
set_option maxRecDepth 100000 in
theorem after_y (s p : List UInt8) (_hs : s.length ≤ 9000000000) (h : begB p s = true) : Meets Tryd.prog 69 [.str s, .str p] [] (.tup [.str (s.drop p.length), .bool true]) [] := by
 refine meets_of_ev (nt := 23) Tryd.func69 rfl rfl (Nat.le_of_ble_eq_true rfl) ?_
 refine .seq ?_
 refine .region ?_
 refine .q (op_assign rfl) trivial rfl ?_
 refine .q (op_assign rfl) trivial rfl ?_
 refine .nil ?_
 show Ev _ _ _ _ _
 refine .seq ?_
 refine .seq ?_
 refine .region ?_
 refine .q (op_move rfl) trivial rfl ?_
 refine .q (op_len_str Tryd.underlying9 rfl) trivial rfl ?_
 refine .q (op_move rfl) trivial rfl ?_
 refine .q (op_len_str Tryd.underlying9 rfl) trivial rfl ?_
 refine .q (op_cmpI rfl rfl rfl) trivial rfl ?_
 refine .q (op_move rfl) trivial rfl ?_
 refine .know (b' := false) (decide_eq_false (by have := (begB_iff.1 h).1; omega)) ?_
 refine .q (op_move rfl) ⟨_, rfl, rfl⟩ rfl ?_
 refine .q (op_move rfl) ⟨_, rfl, rfl⟩ rfl ?_
 refine .q (op_len_str Tryd.underlying9 rfl) ⟨_, rfl, rfl⟩ rfl ?_
 refine .q (ap_slice_str_hi Tryd.underlying9 rfl (bnd_some rfl (l := p.length) rfl) (by have := (begB_iff.1 h).1; omega)) ⟨_, rfl, rfl⟩ rfl ?_
 refine .q (op_move rfl) ⟨_, rfl, rfl⟩ rfl ?_
 refine .q (op_eqS rfl rfl rfl) ⟨_, rfl, rfl⟩ rfl ?_
 refine .q (op_pick_false rfl rfl rfl) trivial rfl ?_
 refine .nil ?_
 show Ev _ _ _ _ _
 refine .cond_false rfl ((by have : s.take p.length = p := (begB_iff.1 h).2; simp [this])) ?_
 refine .skip ?_
 show Ev _ _ _ _ _
 refine .seq ?_
 refine .region ?_
 refine .q (op_move rfl) trivial rfl ?_
 refine .q (op_move rfl) trivial rfl ?_
 refine .q (op_len_str Tryd.underlying9 rfl) trivial rfl ?_
 refine .q (ap_slice_str_lo Tryd.underlying9 rfl (bnd_some rfl (l := p.length) rfl) (by have := (begB_iff.1 h).1; omega)) trivial rfl ?_
 refine .q (op_assign rfl) trivial rfl ?_
 refine .q (op_assign rfl) trivial rfl ?_
 refine .nil ?_
 show Ev _ _ _ _ _
 refine .ret ?_
 show RetOk _ _ _ _ _ _ _
 exact ret2v rfl (.inl rfl) rfl rfl rfl rfl trivial
set_option maxRecDepth 100000 in
theorem after_n (s p : List UInt8) (_hs : s.length ≤ 9000000000) (h : begB p s = false) : Meets Tryd.prog 69 [.str s, .str p] [] (.tup [.str [], .bool false]) [] := by
 refine meets_of_ev (nt := 23) Tryd.func69 rfl rfl (Nat.le_of_ble_eq_true rfl) ?_
 refine .seq ?_
 refine .region ?_
 refine .q (op_assign rfl) trivial rfl ?_
 refine .q (op_assign rfl) trivial rfl ?_
 refine .nil ?_
 show Ev _ _ _ _ _
 refine .seq ?_
 refine .seq ?_
 refine .region ?_
 refine .q (op_move rfl) trivial rfl ?_
 refine .q (op_len_str Tryd.underlying9 rfl) trivial rfl ?_
 refine .q (op_move rfl) trivial rfl ?_
 refine .q (op_len_str Tryd.underlying9 rfl) trivial rfl ?_
 refine .q (op_cmpI rfl rfl rfl) trivial rfl ?_
 refine .q (op_move rfl) trivial rfl ?_
 refine .split (fun hg11 => ?_) (fun hg11 => ?_)
 ·first | replace hg11 := of_decide_eq_true hg11 | replace hg11 := of_decide_eq_false hg11 | replace hg11 := eq_of_beq hg11 | replace hg11 := ne_of_beq_false hg11 | simp only [bne_iff_ne, ne_eq] at hg11 | simp only [bne_eq_false_iff_eq] at hg11
  refine .no ⟨_, rfl, rfl⟩ rfl ?_
  refine .no ⟨_, rfl, rfl⟩ rfl ?_
  refine .no ⟨_, rfl, rfl⟩ rfl ?_
  refine .no ⟨_, rfl, rfl⟩ rfl ?_
  refine .no ⟨_, rfl, rfl⟩ rfl ?_
  refine .no ⟨_, rfl, rfl⟩ rfl ?_
  refine .q (op_pick_true rfl rfl rfl) trivial rfl ?_
  refine .nil ?_
  show Ev _ _ _ _ _
  refine .cond_true rfl rfl ?_
  refine .seq ?_
  refine .region ?_
  refine .q (op_assign rfl) trivial rfl ?_
  refine .q (op_assign rfl) trivial rfl ?_
  refine .nil ?_
  show Ev _ _ _ _ _
  refine .ret ?_
  show RetOk _ _ _ _ _ _ _
  exact ret2v rfl (.inl rfl) rfl rfl rfl rfl trivial
 ·first | replace hg11 := of_decide_eq_true hg11 | replace hg11 := of_decide_eq_false hg11 | replace hg11 := eq_of_beq hg11 | replace hg11 := ne_of_beq_false hg11 | simp only [bne_iff_ne, ne_eq] at hg11 | simp only [bne_eq_false_iff_eq] at hg11
  refine .q (op_move rfl) ⟨_, rfl, rfl⟩ rfl ?_
  refine .q (op_move rfl) ⟨_, rfl, rfl⟩ rfl ?_
  refine .q (op_len_str Tryd.underlying9 rfl) ⟨_, rfl, rfl⟩ rfl ?_
  refine .q (ap_slice_str_hi Tryd.underlying9 rfl (bnd_some rfl (l := p.length) rfl) (by omega)) ⟨_, rfl, rfl⟩ rfl ?_
  refine .q (op_move rfl) ⟨_, rfl, rfl⟩ rfl ?_
  refine .q (op_eqS rfl rfl rfl) ⟨_, rfl, rfl⟩ rfl ?_
  refine .q (op_pick_false rfl rfl rfl) trivial rfl ?_
  refine .nil ?_
  show Ev _ _ _ _ _
  refine .cond_true rfl (bne_iff_ne.2 (fun e => by rw [(begB_iff (p := p) (s := s)).2 ⟨by omega, by simpa using e⟩] at h; cases h)) ?_
  refine .seq ?_
  refine .region ?_
  refine .q (op_assign rfl) trivial rfl ?_
  refine .q (op_assign rfl) trivial rfl ?_
  refine .nil ?_
  show Ev _ _ _ _ _
  refine .ret ?_
  show RetOk _ _ _ _ _ _ _
  exact ret2v rfl (.inl rfl) rfl rfl rfl rfl trivial
theorem take_one {l : List UInt8} {j : Nat} (h : j < l.length) : l.take (j + 1) = l.take j ++ [l.getD j 0] := by
 rw [List.take_succ_eq_append_getElem h, List.getD_eq_getElem?_getD, List.getElem?_eq_getElem h]; rfl
set_option maxHeartbeats 1000000 in
set_option maxRecDepth 100000 in
theorem rall_ev (s : List UInt8) (m0 : Nat) (hs : s.length ≤ 9000000) (hm : m0 ≤ 16) : Meets Tryd.prog 28 [.str s, .i64 ((m0 : Nat) : Int)] [] (.agg [.str ((allD s [] m0)).v, .str ((allD s [] m0)).r, .i64 ((((allD s [] m0)).e : Nat) : Int)]) [] := by
 refine meets_of_ev (nt := 118) Tryd.func28 rfl rfl (Nat.le_of_ble_eq_true rfl) ?_
 refine .seq ?_
 refine .region ?_
 refine .a (op_allocRow zero60 rel_zero60 rfl) trivial rfl ?_
 refine .nil ?_
 show Ev _ _ _ _ _
 refine .seq ?_
 refine .region ?_
 refine .q (op_assign rfl) trivial rfl ?_
 refine .nil ?_
 show Ev _ _ _ _ _
 refine .seq ?_
 refine .seq ?_
 refine .region ?_
 refine .q (op_assign rfl) trivial rfl ?_
 refine .nil ?_
 show Ev _ _ _ _ _
 refine .block ?_
 refine Ev.loop (ι := RI11 s m0) (fun u => ⟨[(0, .str s), (1, .i64 ((u.m : Nat) : Int)), (4, .ptr 1000 0), (5, .str u.l), (6, .i64 ((u.i : Nat) : Int))], [(1000, some ⟨.agg [.str [], .str [], .i64 0], 60, true⟩)], 1008⟩) (fun u => s.length - u.i) ⟨[], 0, m0, by rw [List.drop_zero], Nat.zero_le _, Nat.zero_le _, hm⟩ (StLe.mk [(1000, 1000)] rfl rfl ⟨⟨_, rfl, by first | rfl | (simp only [AV.ren]; congr 1; omega), rfl⟩, ⟨_, rfl, by first | rfl | (simp only [AV.ren]; congr 1; omega), rfl⟩, ⟨_, rfl, by first | rfl | (simp only [AV.ren]; congr 1; omega), rfl⟩, ⟨_, rfl, by first | rfl | (simp only [AV.ren]; congr 1; omega), rfl⟩, ⟨_, rfl, by first | rfl | (simp only [AV.ren]; congr 1; omega), rfl⟩, trivial⟩ ⟨⟨_, _, rfl, rfl, rfl, rfl, id, rfl⟩, trivial⟩) ?_
 intro u
 try dsimp only
 have hql := u.hl
 have hqi := u.hi
 have hum := u.hm
 have hcl := crB_le u.l
 have hrl := rR_le (crB u.l)
 refine .seq ?_
 refine .seq ?_
 refine .region ?_
 refine .q (op_move rfl) trivial rfl ?_
 refine .q (op_move rfl) trivial rfl ?_
 refine .q (op_len_str Tryd.underlying9 rfl) trivial rfl ?_
 refine .q (op_cmpI rfl rfl rfl) trivial rfl ?_
 refine .nil ?_
 show Ev _ _ _ _ _
 refine .cond rfl (fun hc17 => ?_) (fun hc17 => ?_)
 ·first | replace hc17 := of_decide_eq_true hc17 | replace hc17 := of_decide_eq_false hc17 | replace hc17 := eq_of_beq hc17 | replace hc17 := ne_of_beq_false hc17 | simp only [bne_iff_ne, ne_eq] at hc17 | simp only [bne_eq_false_iff_eq] at hc17
  refine .skip ?_
  show Ev _ _ _ _ _
  refine .seq ?_
  refine .block ?_
  refine .seq ?_
  refine .seq ?_
  refine .region ?_
  refine .q (op_move rfl) trivial rfl ?_
  refine .q (op_move rfl) trivial rfl ?_
  refine .q (op_index_str Tryd.underlying9 rfl rfl rfl (by omega)) trivial rfl ?_
  refine .q (op_bin8 rfl rfl rfl) trivial rfl ?_
  refine .nil ?_
  show Ev _ _ _ _ _
  refine .cond rfl (fun hc23 => ?_) (fun hc23 => ?_)
  ·first | replace hc23 := of_decide_eq_true hc23 | replace hc23 := of_decide_eq_false hc23 | replace hc23 := eq_of_beq hc23 | replace hc23 := ne_of_beq_false hc23 | simp only [bne_iff_ne, ne_eq] at hc23 | simp only [bne_eq_false_iff_eq] at hc23
   refine .seq ?_
   refine .region ?_
   refine .q (op_move rfl) trivial rfl ?_
   refine .q (op_move rfl) trivial rfl ?_
   refine .q (op_move rfl) trivial rfl ?_
   refine .q (op_move rfl) trivial rfl ?_
   refine .q (op_addI rfl rfl ⟨by omega, by omega⟩) trivial rfl ?_
   refine .q (op_slice_str Tryd.underlying9 rfl (bnd_some rfl (l := u.i) rfl) (bnd_some rfl (l := u.i + 1) rfl) (by omega) (by omega)) trivial rfl ?_
   refine .as (.str [s.getD u.i 0]) (congrArg AV.str (slice_one (show u.i < s.length by omega))) ?_
   refine .q (op_addS rfl rfl (by simp; omega)) trivial rfl ?_
   refine .q (op_assign rfl) trivial rfl ?_
   refine .nil ?_
   show Ev _ _ _ _ _
   refine .seq ?_
   refine .seq ?_
   refine .region ?_
   refine .q (op_move rfl) trivial rfl ?_
   refine .q (op_len_str Tryd.underlying9 rfl) trivial rfl ?_
   refine .q (op_cmpI rfl rfl rfl) trivial rfl ?_
   refine .nil ?_
   show Ev _ _ _ _ _
   refine .cond rfl (fun hc33 => ?_) (fun hc33 => ?_)
   ·skip
    refine .seq ?_
    refine .region ?_
    refine .q (op_buildS (r := .agg [.str [], .str [], .i64 4]) Tryd.underlying60 rfl zero60 rel_zero60 rfl rfl rfl rfl) trivial rfl ?_
    refine .as (.agg [.str ((allD s [] m0)).v, .str ((allD s [] m0)).r, .i64 ((((allD s [] m0)).e : Nat) : Int)]) (by rw [u.big (show u.i < s.length by omega) hc23 (by have := of_decide_eq_true hc33; simp at this; omega)]; rfl) ?_
    refine .w (op_storeRow (by kernel_rfl) rfl rfl rfl rfl rfl (rfl) (rfl)) trivial rfl ?_
    refine .nil ?_
    show Ev _ _ _ _ _
    refine .ret ?_
    show RetOk _ _ _ _ _ _ _
    exact retc1 rfl (.inl rfl) ⟨_, _, _, _, rfl, rfl, rfl, rfl, rfl, Tryd.underlying60, rfl, (by kernel_rfl)⟩ trivial
   ·skip
    refine .skip ?_
    show Ev _ _ _ _ _
    refine .exit ?_
    show Ev _ _ _ _ _
    refine .region ?_
    refine .q (op_move rfl) trivial rfl ?_
    refine .q (op_addI rfl rfl ⟨by omega, by omega⟩) trivial rfl ?_
    refine .q (op_assign rfl) trivial rfl ?_
    refine .nil ?_
    exact ⟨u.text (show u.i < s.length by omega) (by first | exact hc23 | exact bne_eq_false_iff_eq.1 hc23) (by have := of_decide_eq_false hc33; simp at this; omega), show s.length - (u.i + 1) < s.length - u.i by omega, StLe.mk [(1000, 1000)] rfl rfl ⟨⟨_, rfl, by first | rfl | (simp only [AV.ren]; congr 1; omega), rfl⟩, ⟨_, rfl, by first | rfl | (simp only [AV.ren]; congr 1; omega), rfl⟩, ⟨_, rfl, by first | rfl | (simp only [AV.ren]; congr 1; omega), rfl⟩, ⟨_, rfl, by first | rfl | (simp only [AV.ren]; congr 1; omega), rfl⟩, ⟨_, rfl, by first | rfl | (simp only [AV.ren]; congr 1; omega), rfl⟩, trivial⟩ ⟨⟨_, _, rfl, rfl, rfl, rfl, id, rfl⟩, trivial⟩⟩
  ·first | replace hc23 := of_decide_eq_true hc23 | replace hc23 := of_decide_eq_false hc23 | replace hc23 := eq_of_beq hc23 | replace hc23 := ne_of_beq_false hc23 | simp only [bne_iff_ne, ne_eq] at hc23 | simp only [bne_eq_false_iff_eq] at hc23
   refine .skip ?_
   show Ev _ _ _ _ _
   refine .seq ?_
   refine .seq ?_
   refine .region ?_
   refine .q (op_move rfl) trivial rfl ?_
   refine .q (op_eqS rfl rfl rfl) trivial rfl ?_
   refine .q (op_move rfl) trivial rfl ?_
   refine .split (fun hg37 => ?_) (fun hg37 => ?_)
   ·first | replace hg37 := of_decide_eq_true hg37 | replace hg37 := of_decide_eq_false hg37 | replace hg37 := eq_of_beq hg37 | replace hg37 := ne_of_beq_false hg37 | simp only [bne_iff_ne, ne_eq] at hg37 | simp only [bne_eq_false_iff_eq] at hg37
    refine .q (op_move rfl) ⟨_, rfl, rfl⟩ rfl ?_
    refine .q (op_move rfl) ⟨_, rfl, rfl⟩ rfl ?_
    refine .q (op_len_str Tryd.underlying9 rfl) ⟨_, rfl, rfl⟩ rfl ?_
    refine .q (op_subI rfl rfl ⟨by omega, by omega⟩) ⟨_, rfl, rfl⟩ rfl ?_
    refine .q (op_index_str Tryd.underlying9 rfl rfl (show _ = ((u.l.length - 1 : Nat) : Int) by have := List.length_pos_iff.2 hg37; omega) (by have := List.length_pos_iff.2 hg37; omega)) ⟨_, rfl, rfl⟩ rfl ?_
    refine .q (op_bin8 rfl rfl rfl) ⟨_, rfl, rfl⟩ rfl ?_
    refine .q (op_pick_true rfl rfl rfl) trivial rfl ?_
    refine .nil ?_
    show Ev _ _ _ _ _
    refine .cond rfl (fun hc44 => ?_) (fun hc44 => ?_)
    ·first | replace hc44 := of_decide_eq_true hc44 | replace hc44 := of_decide_eq_false hc44 | replace hc44 := eq_of_beq hc44 | replace hc44 := ne_of_beq_false hc44 | simp only [bne_iff_ne, ne_eq] at hc44 | simp only [bne_eq_false_iff_eq] at hc44
     refine .region ?_
     refine .q (op_move rfl) trivial rfl ?_
     refine .q (op_move rfl) trivial rfl ?_
     refine .q (op_len_str Tryd.underlying9 rfl) trivial rfl ?_
     refine .q (op_subI rfl rfl ⟨by omega, by omega⟩) trivial rfl ?_
     refine .q (ap_slice_str_hi Tryd.underlying9 rfl (bnd_some rfl (l := u.l.length - 1) (by have := List.length_pos_iff.2 hg37; omega)) (by omega)) trivial rfl ?_
     refine .as (.str (crB u.l)) (congrArg AV.str (crB_last1 (List.length_pos_iff.2 hg37) hc44).symm) ?_
     refine .q (op_assign rfl) trivial rfl ?_
     refine .nil ?_
     show Ev _ _ _ _ _
     refine .seq ?_
     refine .seq ?_
     refine Ev.weak (st2 := ⟨[(0, .str s), (1, .i64 ((u.m : Nat) : Int)), (4, .ptr 1000 0), (5, .str (crB u.l)), (6, .i64 ((u.i : Nat) : Int))], [(1000, some ⟨.agg [.str [], .str [], .i64 0], 60, true⟩)], 1008⟩) (StLe.mk [(1000, 1000)] rfl rfl ⟨⟨_, rfl, by rfl, rfl⟩, ⟨_, rfl, by rfl, rfl⟩, ⟨_, rfl, by rfl, rfl⟩, ⟨_, rfl, by first | rfl | (show AV.str u.l = AV.str (crB u.l); rw [crB_last0 (by first | exact .inr hc44 | exact .inl (bne_eq_false_iff_eq.1 hg37) | exact .inl hg37)]), rfl⟩, ⟨_, rfl, by rfl, rfl⟩, trivial⟩ ⟨⟨_, _, rfl, rfl, rfl, rfl, id, rfl⟩, trivial⟩) ?_
     refine .region ?_
     refine .q (op_assign rfl) trivial rfl ?_
     refine .nil ?_
     show Ev _ _ _ _ _
     refine .block ?_
     refine Ev.loop (ι := { j : Nat // j ≤ (crB u.l).length ∧ ((crB u.l).take j).contains 0 = false }) (fun q => ⟨[(0, .str s), (1, .i64 ((u.m : Nat) : Int)), (4, .ptr 1000 0), (5, .str (crB u.l)), (6, .i64 ((u.i : Nat) : Int)), (7, .i64 ((q.1 : Nat) : Int))], [(1000, some ⟨.agg [.str [], .str [], .i64 0], 60, true⟩)], 1008⟩) (fun q => (crB u.l).length - q.1) ⟨0, Nat.zero_le _, rfl⟩ (StLe.mk [(1000, 1000)] rfl rfl ⟨⟨_, rfl, by first | rfl | (simp only [AV.ren]; congr 1; omega), rfl⟩, ⟨_, rfl, by first | rfl | (simp only [AV.ren]; congr 1; omega), rfl⟩, ⟨_, rfl, by first | rfl | (simp only [AV.ren]; congr 1; omega), rfl⟩, ⟨_, rfl, by first | rfl | (simp only [AV.ren]; congr 1; omega), rfl⟩, ⟨_, rfl, by first | rfl | (simp only [AV.ren]; congr 1; omega), rfl⟩, ⟨_, rfl, by first | rfl | (simp only [AV.ren]; congr 1; omega), rfl⟩, trivial⟩ ⟨⟨_, _, rfl, rfl, rfl, rfl, id, rfl⟩, trivial⟩) ?_
     rintro ⟨j, hj, hj0⟩
     try dsimp only
     refine .seq ?_
     refine .seq ?_
     refine .region ?_
     refine .q (op_move rfl) trivial rfl ?_
     refine .q (op_move rfl) trivial rfl ?_
     refine .q (op_len_str Tryd.underlying9 rfl) trivial rfl ?_
     refine .q (op_cmpI rfl rfl rfl) trivial rfl ?_
     refine .nil ?_
     show Ev _ _ _ _ _
     refine .cond rfl (fun hc53 => ?_) (fun hc53 => ?_)
     ·first | replace hc53 := of_decide_eq_true hc53 | replace hc53 := of_decide_eq_false hc53 | replace hc53 := eq_of_beq hc53 | replace hc53 := ne_of_beq_false hc53 | simp only [bne_iff_ne, ne_eq] at hc53 | simp only [bne_eq_false_iff_eq] at hc53
      refine .skip ?_
      show Ev _ _ _ _ _
      refine .seq ?_
      refine .block ?_
      refine .seq ?_
      refine .region ?_
      refine .q (op_move rfl) trivial rfl ?_
      refine .q (op_move rfl) trivial rfl ?_
      refine .q (op_index_str Tryd.underlying9 rfl rfl rfl (by omega)) trivial rfl ?_
      refine .q (op_bin8 rfl rfl rfl) trivial rfl ?_
      refine .nil ?_
      show Ev _ _ _ _ _
      refine .cond rfl (fun hc59 => ?_) (fun hc59 => ?_)
      ·first | replace hc59 := of_decide_eq_true hc59 | replace hc59 := of_decide_eq_false hc59 | replace hc59 := eq_of_beq hc59 | replace hc59 := ne_of_beq_false hc59 | simp only [bne_iff_ne, ne_eq] at hc59 | simp only [bne_eq_false_iff_eq] at hc59
       refine .seq ?_
       refine .region ?_
       refine .q (op_buildS (r := .agg [.str [], .str [], .i64 3]) Tryd.underlying60 rfl zero60 rel_zero60 rfl rfl rfl rfl) trivial rfl ?_
       refine .as (.agg [.str ((allD s [] m0)).v, .str ((allD s [] m0)).r, .i64 ((((allD s [] m0)).e : Nat) : Int)]) (by rw [u.zero (show u.i < s.length by omega) (by first | exact hc23 | exact bne_eq_false_iff_eq.1 hc23) (con_hit (j := j) (by omega) hc59)]; rfl) ?_
       refine .w (op_storeRow (by kernel_rfl) rfl rfl rfl rfl rfl (rfl) (rfl)) trivial rfl ?_
       refine .nil ?_
       show Ev _ _ _ _ _
       refine .ret ?_
       show RetOk _ _ _ _ _ _ _
       exact retc1 rfl (.inl rfl) ⟨_, _, _, _, rfl, rfl, rfl, rfl, rfl, Tryd.underlying60, rfl, (by kernel_rfl)⟩ trivial
      ·first | replace hc59 := of_decide_eq_true hc59 | replace hc59 := of_decide_eq_false hc59 | replace hc59 := eq_of_beq hc59 | replace hc59 := ne_of_beq_false hc59 | simp only [bne_iff_ne, ne_eq] at hc59 | simp only [bne_eq_false_iff_eq] at hc59
       refine .skip ?_
       show Ev _ _ _ _ _
       refine .region ?_
       refine .q (op_move rfl) trivial rfl ?_
       refine .q (op_addI rfl rfl ⟨by omega, by omega⟩) trivial rfl ?_
       refine .q (op_assign rfl) trivial rfl ?_
       refine .nil ?_
       exact ⟨⟨j + 1, by omega, con_step (by omega) hj0 hc59⟩, by (try dsimp only); omega, StLe.mk [(1000, 1000)] rfl rfl ⟨⟨_, rfl, by first | rfl | (simp only [AV.ren]; congr 1; omega), rfl⟩, ⟨_, rfl, by first | rfl | (simp only [AV.ren]; congr 1; omega), rfl⟩, ⟨_, rfl, by first | rfl | (simp only [AV.ren]; congr 1; omega), rfl⟩, ⟨_, rfl, by first | rfl | (simp only [AV.ren]; congr 1; omega), rfl⟩, ⟨_, rfl, by first | rfl | (simp only [AV.ren]; congr 1; omega), rfl⟩, ⟨_, rfl, by first | rfl | (simp only [AV.ren]; congr 1; omega), rfl⟩, trivial⟩ ⟨⟨_, _, rfl, rfl, rfl, rfl, id, rfl⟩, trivial⟩⟩
     ·first | replace hc53 := of_decide_eq_true hc53 | replace hc53 := of_decide_eq_false hc53 | replace hc53 := eq_of_beq hc53 | replace hc53 := ne_of_beq_false hc53 | simp only [bne_iff_ne, ne_eq] at hc53 | simp only [bne_eq_false_iff_eq] at hc53
      refine .exit ?_
      show Ev _ _ _ _ _
      refine .seq ?_
      refine .seq ?_
      refine .region ?_
      refine .q (op_move rfl) trivial rfl ?_
      refine dite (begB sshP (crB u.l) = true) (fun h1 => ?_) (fun h1 => ?_)
      ·refine .q (op_call (U := []) [] [] (after_y (crB u.l) sshP (by omega) h1) Tryd.func69 (by kernel_rfl) rfl rfl rfl (⟨⟨_, rfl, rfl, rfl⟩, ⟨_, rfl, rfl, rfl⟩, trivial⟩) (trivial) (trivial) (trivial) rfl) trivial rfl ?_
       refine .q (op_move rfl) trivial rfl ?_
       refine .q (op_extract rfl rfl) trivial rfl ?_
       refine .q (op_extract rfl rfl) trivial rfl ?_
       refine .q (op_assign rfl) trivial rfl ?_
       refine .q (op_assign rfl) trivial rfl ?_
       refine .nil ?_
       show Ev _ _ _ _ _
       refine .seq ?_
       refine .region ?_
       refine .q (op_move rfl) trivial rfl ?_
       refine .nil ?_
       show Ev _ _ _ _ _
       refine .cond_true rfl (rfl) ?_
       refine .seq ?_
       refine .region ?_
       refine .q (op_move rfl) trivial rfl ?_
       refine dite (begB ssh2 (crB u.l) = true) (fun h2 => ?_) (fun h2 => ?_)
       ·refine .q (op_call (U := []) [] [] (after_y (crB u.l) ssh2 (by omega) h2) Tryd.func69 (by kernel_rfl) rfl rfl rfl (⟨⟨_, rfl, rfl, rfl⟩, ⟨_, rfl, rfl, rfl⟩, trivial⟩) (trivial) (trivial) (trivial) rfl) trivial rfl ?_
        refine .q (op_move rfl) trivial rfl ?_
        refine .q (op_extract rfl rfl) trivial rfl ?_
        refine .q (op_extract rfl rfl) trivial rfl ?_
        refine .q (op_assign rfl) trivial rfl ?_
        refine .q (op_assign rfl) trivial rfl ?_
        refine .nil ?_
        show Ev _ _ _ _ _
        refine .seq ?_
        refine .seq ?_
        refine .region ?_
        refine .q (op_move rfl) trivial rfl ?_
        refine .q (op_notB rfl) trivial rfl ?_
        refine .nil ?_
        show Ev _ _ _ _ _
        refine .cond_false rfl (rfl) ?_
        refine .skip ?_
        show Ev _ _ _ _ _
        refine .seq ?_
        refine Ev.weak (st2 := ⟨[(0, .str s), (1, .i64 ((u.m : Nat) : Int)), (4, .ptr 1000 0), (5, .str (crB u.l)), (6, .i64 ((u.i : Nat) : Int)), (10, .str (rR (crB u.l))), (11, .bool (okR (crB u.l)))], [(1000, some ⟨.agg [.str [], .str [], .i64 0], 60, true⟩)], 1008⟩) (StLe.mk [(1000, 1000)] rfl rfl ⟨⟨_, rfl, by rfl, rfl⟩, ⟨_, rfl, by rfl, rfl⟩, ⟨_, rfl, by rfl, rfl⟩, ⟨_, rfl, by rfl, rfl⟩, ⟨_, rfl, by rfl, rfl⟩, ⟨_, rfl, by (show AV.str _ = AV.str _; congr 1; symm; first | rfl | (unfold rR; rw [if_pos h2]; rfl) | (unfold rR; rw [if_neg h2, if_pos h3]; rfl) | (unfold rR; rw [if_neg h2, if_neg h3])), rfl⟩, ⟨_, rfl, by (show AV.bool _ = AV.bool _; congr 1; symm; first | rfl | (unfold okR; rw [h2]; rfl) | (unfold okR; rw [Bool.eq_false_iff.2 h2, h3]; rfl) | (unfold okR; rw [Bool.eq_false_iff.2 h2, Bool.eq_false_iff.2 h3]; rfl)), rfl⟩, trivial⟩ ⟨⟨_, _, rfl, rfl, rfl, rfl, id, rfl⟩, trivial⟩) ?_
        refine .region ?_
        refine .q (op_assign rfl) trivial rfl ?_
        refine .nil ?_
        show Ev _ _ _ _ _
        refine .seq ?_
        refine .seq ?_
        refine .region ?_
        refine .q (op_assign rfl) trivial rfl ?_
        refine .nil ?_
        show Ev _ _ _ _ _
        refine .block ?_
        refine Ev.loop (ι := { k : Nat // k ≤ (rR (crB u.l)).length ∧ ((rR (crB u.l)).take k).contains 32 = false }) (fun q => ⟨[(0, .str s), (1, .i64 ((u.m : Nat) : Int)), (4, .ptr 1000 0), (5, .str (crB u.l)), (6, .i64 ((u.i : Nat) : Int)), (10, .str (rR (crB u.l))), (11, .bool (okR (crB u.l))), (12, .str ((rR (crB u.l)).take q.1)), (13, .i64 ((q.1 : Nat) : Int))], [(1000, some ⟨.agg [.str [], .str [], .i64 0], 60, true⟩)], 1008⟩) (fun q => (rR (crB u.l)).length - q.1) ⟨0, Nat.zero_le _, rfl⟩ (StLe.mk [(1000, 1000)] rfl rfl ⟨⟨_, rfl, by first | rfl | (simp only [AV.ren]; congr 1; omega), rfl⟩, ⟨_, rfl, by first | rfl | (simp only [AV.ren]; congr 1; omega), rfl⟩, ⟨_, rfl, by first | rfl | (simp only [AV.ren]; congr 1; omega), rfl⟩, ⟨_, rfl, by first | rfl | (simp only [AV.ren]; congr 1; omega), rfl⟩, ⟨_, rfl, by first | rfl | (simp only [AV.ren]; congr 1; omega), rfl⟩, ⟨_, rfl, by first | rfl | (simp only [AV.ren]; congr 1; omega), rfl⟩, ⟨_, rfl, by first | rfl | (simp only [AV.ren]; congr 1; omega), rfl⟩, ⟨_, rfl, by first | rfl | (simp only [AV.ren]; congr 1; omega), rfl⟩, ⟨_, rfl, by first | rfl | (simp only [AV.ren]; congr 1; omega), rfl⟩, trivial⟩ ⟨⟨_, _, rfl, rfl, rfl, rfl, id, rfl⟩, trivial⟩) ?_
        rintro ⟨k, hk, hk0⟩
        try dsimp only
        refine .seq ?_
        refine .seq ?_
        refine .region ?_
        refine .q (op_move rfl) trivial rfl ?_
        refine .q (op_move rfl) trivial rfl ?_
        refine .q (op_len_str Tryd.underlying9 rfl) trivial rfl ?_
        refine .q (op_cmpI rfl rfl rfl) trivial rfl ?_
        refine .q (op_move rfl) trivial rfl ?_
        refine .split (fun hg83 => ?_) (fun hg83 => ?_)
        ·first | replace hg83 := of_decide_eq_true hg83 | replace hg83 := of_decide_eq_false hg83 | replace hg83 := eq_of_beq hg83 | replace hg83 := ne_of_beq_false hg83 | simp only [bne_iff_ne, ne_eq] at hg83 | simp only [bne_eq_false_iff_eq] at hg83
         refine .q (op_move rfl) ⟨_, rfl, rfl⟩ rfl ?_
         refine .q (op_move rfl) ⟨_, rfl, rfl⟩ rfl ?_
         refine .q (op_index_str Tryd.underlying9 rfl rfl rfl (by omega)) ⟨_, rfl, rfl⟩ rfl ?_
         refine .q (op_bin8 rfl rfl rfl) ⟨_, rfl, rfl⟩ rfl ?_
         refine .q (op_pick_true rfl rfl rfl) trivial rfl ?_
         refine .nil ?_
         show Ev _ _ _ _ _
         refine .cond rfl (fun hc88 => ?_) (fun hc88 => ?_)
         ·first | replace hc88 := of_decide_eq_true hc88 | replace hc88 := of_decide_eq_false hc88 | replace hc88 := eq_of_beq hc88 | replace hc88 := ne_of_beq_false hc88 | simp only [bne_iff_ne, ne_eq] at hc88 | simp only [bne_eq_false_iff_eq] at hc88
          refine .skip ?_
          show Ev _ _ _ _ _
          refine .seq ?_
          refine .block ?_
          refine .region ?_
          refine .q (op_move rfl) trivial rfl ?_
          refine .q (op_move rfl) trivial rfl ?_
          refine .q (op_move rfl) trivial rfl ?_
          refine .q (op_move rfl) trivial rfl ?_
          refine .q (op_addI rfl rfl ⟨by omega, by omega⟩) trivial rfl ?_
          refine .q (op_slice_str Tryd.underlying9 rfl (bnd_some rfl (l := k) rfl) (bnd_some rfl (l := k + 1) rfl) (by omega) (by omega)) trivial rfl ?_
          refine .as (.str [(rR (crB u.l)).getD k 0]) (congrArg AV.str (slice_one (show k < (rR (crB u.l)).length by omega))) ?_
          refine .q (op_addS rfl rfl (by simp; omega)) trivial rfl ?_
          refine .q (op_assign rfl) trivial rfl ?_
          refine .nil ?_
          show Ev _ _ _ _ _
          refine .region ?_
          refine .q (op_move rfl) trivial rfl ?_
          refine .q (op_addI rfl rfl ⟨by omega, by omega⟩) trivial rfl ?_
          refine .q (op_assign rfl) trivial rfl ?_
          refine .nil ?_
          exact ⟨⟨k + 1, by omega, con_step (by omega) hk0 hc88⟩, by (try dsimp only); omega, StLe.mk [(1000, 1000)] rfl rfl ⟨⟨_, rfl, by rfl, rfl⟩, ⟨_, rfl, by rfl, rfl⟩, ⟨_, rfl, by rfl, rfl⟩, ⟨_, rfl, by rfl, rfl⟩, ⟨_, rfl, by rfl, rfl⟩, ⟨_, rfl, by rfl, rfl⟩, ⟨_, rfl, by rfl, rfl⟩, ⟨_, rfl, by (show AV.str _ = AV.str _; congr 1; exact (take_one (by omega)).symm), rfl⟩, ⟨_, rfl, by rfl, rfl⟩, trivial⟩ ⟨⟨_, _, rfl, rfl, rfl, rfl, id, rfl⟩, trivial⟩⟩
         ·first | replace hc88 := of_decide_eq_true hc88 | replace hc88 := of_decide_eq_false hc88 | replace hc88 := eq_of_beq hc88 | replace hc88 := ne_of_beq_false hc88 | simp only [bne_iff_ne, ne_eq] at hc88 | simp only [bne_eq_false_iff_eq] at hc88
          refine .exit ?_
          show Ev _ _ _ _ _
          refine .seq ?_
          refine .seq ?_
          refine .region ?_
          refine .q (op_move rfl) trivial rfl ?_
          refine .q (op_notB rfl) trivial rfl ?_
          refine .q (op_move rfl) trivial rfl ?_
          refine .split (fun hg100 => ?_) (fun hg100 => ?_)
          ·skip
           refine .no ⟨_, rfl, rfl⟩ rfl ?_
           refine .no ⟨_, rfl, rfl⟩ rfl ?_
           refine .no ⟨_, rfl, rfl⟩ rfl ?_
           refine .q (op_pick_true rfl rfl rfl) trivial rfl ?_
           refine .nil ?_
           show Ev _ _ _ _ _
           refine .cond_true rfl rfl ?_
           refine .seq ?_
           refine .region ?_
           refine .q (op_buildS (r := .agg [.str [], .str [], .i64 12]) Tryd.underlying60 rfl zero60 rel_zero60 rfl rfl rfl rfl) trivial rfl ?_
           refine .as (.agg [.str ((allD s [] m0)).v, .str ((allD s [] m0)).r, .i64 ((((allD s [] m0)).e : Nat) : Int)]) (by rw [u.nover (show u.i < s.length by omega) (by first | exact hc23 | exact bne_eq_false_iff_eq.1 hc23) (con_all (by omega) hj0) h1 (by rw [ver_rR]; first | (rw [show okR (crB u.l) = false by simpa using hg100]; rfl) | (rw [show softOk (cutB 32 (rR (crB u.l))) = false by simpa using hc104]; simp))]; rfl) ?_
           refine .w (op_storeRow (by kernel_rfl) rfl rfl rfl rfl rfl (rfl) (rfl)) trivial rfl ?_
           refine .nil ?_
           show Ev _ _ _ _ _
           refine .ret ?_
           show RetOk _ _ _ _ _ _ _
           exact retc1 rfl (.inl rfl) ⟨_, _, _, _, rfl, rfl, rfl, rfl, rfl, Tryd.underlying60, rfl, (by kernel_rfl)⟩ trivial
          ·skip
           refine .q (op_move rfl) ⟨_, rfl, rfl⟩ rfl ?_
           refine .q (op_call (U := []) [] [] (rword_ev ((rR (crB u.l)).take k) (by simp; omega)) Tryd.func70 (by kernel_rfl) rfl rfl rfl (⟨⟨_, rfl, rfl, rfl⟩, trivial⟩) (trivial) (trivial) (trivial) rfl) ⟨_, rfl, rfl⟩ rfl ?_
           refine .as (.bool (softOk (cutB 32 (rR (crB u.l))))) (congrArg (fun z => AV.bool (softOk z)) (cut_at hk0 (by first | exact .inl (by omega) | exact .inr (bne_eq_false_iff_eq.1 hc88) | exact .inr (by simpa using hc88)) hk)) ?_
           refine .q (op_notB rfl) ⟨_, rfl, rfl⟩ rfl ?_
           refine .q (op_pick_false rfl rfl rfl) trivial rfl ?_
           refine .nil ?_
           show Ev _ _ _ _ _
           refine .cond rfl (fun hc104 => ?_) (fun hc104 => ?_)
           ·skip
            refine .seq ?_
            refine .region ?_
            refine .q (op_buildS (r := .agg [.str [], .str [], .i64 12]) Tryd.underlying60 rfl zero60 rel_zero60 rfl rfl rfl rfl) trivial rfl ?_
            refine .as (.agg [.str ((allD s [] m0)).v, .str ((allD s [] m0)).r, .i64 ((((allD s [] m0)).e : Nat) : Int)]) (by rw [u.nover (show u.i < s.length by omega) (by first | exact hc23 | exact bne_eq_false_iff_eq.1 hc23) (con_all (by omega) hj0) h1 (by rw [ver_rR]; first | (rw [show okR (crB u.l) = false by simpa using hg100]; rfl) | (rw [show softOk (cutB 32 (rR (crB u.l))) = false by simpa using hc104]; simp))]; rfl) ?_
            refine .w (op_storeRow (by kernel_rfl) rfl rfl rfl rfl rfl (rfl) (rfl)) trivial rfl ?_
            refine .nil ?_
            show Ev _ _ _ _ _
            refine .ret ?_
            show RetOk _ _ _ _ _ _ _
            exact retc1 rfl (.inl rfl) ⟨_, _, _, _, rfl, rfl, rfl, rfl, rfl, Tryd.underlying60, rfl, (by kernel_rfl)⟩ trivial
           ·skip
            refine .skip ?_
            show Ev _ _ _ _ _
            refine .seq ?_
            refine .region ?_
            refine .q (op_move rfl) trivial rfl ?_
            refine .q (op_move rfl) trivial rfl ?_
            refine .q (op_move rfl) trivial rfl ?_
            refine .q (op_addI rfl rfl ⟨by omega, by omega⟩) trivial rfl ?_
            refine .q (ap_slice_str_lo Tryd.underlying9 rfl (bnd_some rfl (l := u.i + 1) rfl) (by omega)) trivial rfl ?_
            refine .q (op_buildS (r := .agg [.str (crB u.l), .str (s.drop (u.i + 1)), .i64 0]) Tryd.underlying60 rfl zero60 rel_zero60 rfl rfl rfl rfl) trivial rfl ?_
            refine .as (.agg [.str ((allD s [] m0)).v, .str ((allD s [] m0)).r, .i64 ((((allD s [] m0)).e : Nat) : Int)]) (by rw [u.ver (show u.i < s.length by omega) (by first | exact hc23 | exact bne_eq_false_iff_eq.1 hc23) (con_all (by omega) hj0) h1 (by rw [ver_rR, show okR (crB u.l) = true by simpa using hg100, show softOk (cutB 32 (rR (crB u.l))) = true by simpa using hc104]; rfl)]; rfl) ?_
            refine .w (op_storeRow (by kernel_rfl) rfl rfl rfl rfl rfl (rfl) (rfl)) trivial rfl ?_
            refine .nil ?_
            show Ev _ _ _ _ _
            refine .ret ?_
            show RetOk _ _ _ _ _ _ _
            exact retc1 rfl (.inl rfl) ⟨_, _, _, _, rfl, rfl, rfl, rfl, rfl, Tryd.underlying60, rfl, (by kernel_rfl)⟩ trivial
        ·first | replace hg83 := of_decide_eq_true hg83 | replace hg83 := of_decide_eq_false hg83 | replace hg83 := eq_of_beq hg83 | replace hg83 := ne_of_beq_false hg83 | simp only [bne_iff_ne, ne_eq] at hg83 | simp only [bne_eq_false_iff_eq] at hg83
         refine .no ⟨_, rfl, rfl⟩ rfl ?_
         refine .no ⟨_, rfl, rfl⟩ rfl ?_
         refine .no ⟨_, rfl, rfl⟩ rfl ?_
         refine .no ⟨_, rfl, rfl⟩ rfl ?_
         refine .q (op_pick_false rfl rfl rfl) trivial rfl ?_
         refine .nil ?_
         show Ev _ _ _ _ _
         refine .cond_false rfl rfl ?_
         refine .exit ?_
         show Ev _ _ _ _ _
         refine .seq ?_
         refine .seq ?_
         refine .region ?_
         refine .q (op_move rfl) trivial rfl ?_
         refine .q (op_notB rfl) trivial rfl ?_
         refine .q (op_move rfl) trivial rfl ?_
         refine .split (fun hg100 => ?_) (fun hg100 => ?_)
         ·skip
          refine .no ⟨_, rfl, rfl⟩ rfl ?_
          refine .no ⟨_, rfl, rfl⟩ rfl ?_
          refine .no ⟨_, rfl, rfl⟩ rfl ?_
          refine .q (op_pick_true rfl rfl rfl) trivial rfl ?_
          refine .nil ?_
          show Ev _ _ _ _ _
          refine .cond_true rfl rfl ?_
          refine .seq ?_
          refine .region ?_
          refine .q (op_buildS (r := .agg [.str [], .str [], .i64 12]) Tryd.underlying60 rfl zero60 rel_zero60 rfl rfl rfl rfl) trivial rfl ?_
          refine .as (.agg [.str ((allD s [] m0)).v, .str ((allD s [] m0)).r, .i64 ((((allD s [] m0)).e : Nat) : Int)]) (by rw [u.nover (show u.i < s.length by omega) (by first | exact hc23 | exact bne_eq_false_iff_eq.1 hc23) (con_all (by omega) hj0) h1 (by rw [ver_rR]; first | (rw [show okR (crB u.l) = false by simpa using hg100]; rfl) | (rw [show softOk (cutB 32 (rR (crB u.l))) = false by simpa using hc104]; simp))]; rfl) ?_
          refine .w (op_storeRow (by kernel_rfl) rfl rfl rfl rfl rfl (rfl) (rfl)) trivial rfl ?_
          refine .nil ?_
          show Ev _ _ _ _ _
          refine .ret ?_
          show RetOk _ _ _ _ _ _ _
          exact retc1 rfl (.inl rfl) ⟨_, _, _, _, rfl, rfl, rfl, rfl, rfl, Tryd.underlying60, rfl, (by kernel_rfl)⟩ trivial
         ·skip
          refine .q (op_move rfl) ⟨_, rfl, rfl⟩ rfl ?_
          refine .q (op_call (U := []) [] [] (rword_ev ((rR (crB u.l)).take k) (by simp; omega)) Tryd.func70 (by kernel_rfl) rfl rfl rfl (⟨⟨_, rfl, rfl, rfl⟩, trivial⟩) (trivial) (trivial) (trivial) rfl) ⟨_, rfl, rfl⟩ rfl ?_
          refine .as (.bool (softOk (cutB 32 (rR (crB u.l))))) (congrArg (fun z => AV.bool (softOk z)) (cut_at hk0 (by first | exact .inl (by omega) | exact .inr (bne_eq_false_iff_eq.1 hc88) | exact .inr (by simpa using hc88)) hk)) ?_
          refine .q (op_notB rfl) ⟨_, rfl, rfl⟩ rfl ?_
          refine .q (op_pick_false rfl rfl rfl) trivial rfl ?_
          refine .nil ?_
          show Ev _ _ _ _ _
          refine .cond rfl (fun hc104 => ?_) (fun hc104 => ?_)
          ·skip
           refine .seq ?_
           refine .region ?_
           refine .q (op_buildS (r := .agg [.str [], .str [], .i64 12]) Tryd.underlying60 rfl zero60 rel_zero60 rfl rfl rfl rfl) trivial rfl ?_
           refine .as (.agg [.str ((allD s [] m0)).v, .str ((allD s [] m0)).r, .i64 ((((allD s [] m0)).e : Nat) : Int)]) (by rw [u.nover (show u.i < s.length by omega) (by first | exact hc23 | exact bne_eq_false_iff_eq.1 hc23) (con_all (by omega) hj0) h1 (by rw [ver_rR]; first | (rw [show okR (crB u.l) = false by simpa using hg100]; rfl) | (rw [show softOk (cutB 32 (rR (crB u.l))) = false by simpa using hc104]; simp))]; rfl) ?_
           refine .w (op_storeRow (by kernel_rfl) rfl rfl rfl rfl rfl (rfl) (rfl)) trivial rfl ?_
           refine .nil ?_
           show Ev _ _ _ _ _
           refine .ret ?_
           show RetOk _ _ _ _ _ _ _
           exact retc1 rfl (.inl rfl) ⟨_, _, _, _, rfl, rfl, rfl, rfl, rfl, Tryd.underlying60, rfl, (by kernel_rfl)⟩ trivial
          ·skip
           refine .skip ?_
           show Ev _ _ _ _ _
           refine .seq ?_
           refine .region ?_
           refine .q (op_move rfl) trivial rfl ?_
           refine .q (op_move rfl) trivial rfl ?_
           refine .q (op_move rfl) trivial rfl ?_
           refine .q (op_addI rfl rfl ⟨by omega, by omega⟩) trivial rfl ?_
           refine .q (ap_slice_str_lo Tryd.underlying9 rfl (bnd_some rfl (l := u.i + 1) rfl) (by omega)) trivial rfl ?_
           refine .q (op_buildS (r := .agg [.str (crB u.l), .str (s.drop (u.i + 1)), .i64 0]) Tryd.underlying60 rfl zero60 rel_zero60 rfl rfl rfl rfl) trivial rfl ?_
           refine .as (.agg [.str ((allD s [] m0)).v, .str ((allD s [] m0)).r, .i64 ((((allD s [] m0)).e : Nat) : Int)]) (by rw [u.ver (show u.i < s.length by omega) (by first | exact hc23 | exact bne_eq_false_iff_eq.1 hc23) (con_all (by omega) hj0) h1 (by rw [ver_rR, show okR (crB u.l) = true by simpa using hg100, show softOk (cutB 32 (rR (crB u.l))) = true by simpa using hc104]; rfl)]; rfl) ?_
           refine .w (op_storeRow (by kernel_rfl) rfl rfl rfl rfl rfl (rfl) (rfl)) trivial rfl ?_
           refine .nil ?_
           show Ev _ _ _ _ _
           refine .ret ?_
           show RetOk _ _ _ _ _ _ _
           exact retc1 rfl (.inl rfl) ⟨_, _, _, _, rfl, rfl, rfl, rfl, rfl, Tryd.underlying60, rfl, (by kernel_rfl)⟩ trivial
       ·refine .q (op_call (U := []) [] [] (after_n (crB u.l) ssh2 (by omega) (Bool.eq_false_iff.2 h2)) Tryd.func69 (by kernel_rfl) rfl rfl rfl (⟨⟨_, rfl, rfl, rfl⟩, ⟨_, rfl, rfl, rfl⟩, trivial⟩) (trivial) (trivial) (trivial) rfl) trivial rfl ?_
        refine .q (op_move rfl) trivial rfl ?_
        refine .q (op_extract rfl rfl) trivial rfl ?_
        refine .q (op_extract rfl rfl) trivial rfl ?_
        refine .q (op_assign rfl) trivial rfl ?_
        refine .q (op_assign rfl) trivial rfl ?_
        refine .nil ?_
        show Ev _ _ _ _ _
        refine .seq ?_
        refine .seq ?_
        refine .region ?_
        refine .q (op_move rfl) trivial rfl ?_
        refine .q (op_notB rfl) trivial rfl ?_
        refine .nil ?_
        show Ev _ _ _ _ _
        refine .cond_true rfl (rfl) ?_
        refine .region ?_
        refine .q (op_move rfl) trivial rfl ?_
        refine dite (begB ssh1 (crB u.l) = true) (fun h3 => ?_) (fun h3 => ?_)
        ·refine .q (op_call (U := []) [] [] (after_y (crB u.l) ssh1 (by omega) h3) Tryd.func69 (by kernel_rfl) rfl rfl rfl (⟨⟨_, rfl, rfl, rfl⟩, ⟨_, rfl, rfl, rfl⟩, trivial⟩) (trivial) (trivial) (trivial) rfl) trivial rfl ?_
         refine .q (op_move rfl) trivial rfl ?_
         refine .q (op_extract rfl rfl) trivial rfl ?_
         refine .q (op_extract rfl rfl) trivial rfl ?_
         refine .q (op_assign rfl) trivial rfl ?_
         refine .q (op_assign rfl) trivial rfl ?_
         refine .nil ?_
         show Ev _ _ _ _ _
         refine .seq ?_
         refine Ev.weak (st2 := ⟨[(0, .str s), (1, .i64 ((u.m : Nat) : Int)), (4, .ptr 1000 0), (5, .str (crB u.l)), (6, .i64 ((u.i : Nat) : Int)), (10, .str (rR (crB u.l))), (11, .bool (okR (crB u.l)))], [(1000, some ⟨.agg [.str [], .str [], .i64 0], 60, true⟩)], 1008⟩) (StLe.mk [(1000, 1000)] rfl rfl ⟨⟨_, rfl, by rfl, rfl⟩, ⟨_, rfl, by rfl, rfl⟩, ⟨_, rfl, by rfl, rfl⟩, ⟨_, rfl, by rfl, rfl⟩, ⟨_, rfl, by rfl, rfl⟩, ⟨_, rfl, by (show AV.str _ = AV.str _; congr 1; symm; first | rfl | (unfold rR; rw [if_pos h2]; rfl) | (unfold rR; rw [if_neg h2, if_pos h3]; rfl) | (unfold rR; rw [if_neg h2, if_neg h3])), rfl⟩, ⟨_, rfl, by (show AV.bool _ = AV.bool _; congr 1; symm; first | rfl | (unfold okR; rw [h2]; rfl) | (unfold okR; rw [Bool.eq_false_iff.2 h2, h3]; rfl) | (unfold okR; rw [Bool.eq_false_iff.2 h2, Bool.eq_false_iff.2 h3]; rfl)), rfl⟩, trivial⟩ ⟨⟨_, _, rfl, rfl, rfl, rfl, id, rfl⟩, trivial⟩) ?_
         refine .region ?_
         refine .q (op_assign rfl) trivial rfl ?_
         refine .nil ?_
         show Ev _ _ _ _ _
         refine .seq ?_
         refine .seq ?_
         refine .region ?_
         refine .q (op_assign rfl) trivial rfl ?_
         refine .nil ?_
         show Ev _ _ _ _ _
         refine .block ?_
         refine Ev.loop (ι := { k : Nat // k ≤ (rR (crB u.l)).length ∧ ((rR (crB u.l)).take k).contains 32 = false }) (fun q => ⟨[(0, .str s), (1, .i64 ((u.m : Nat) : Int)), (4, .ptr 1000 0), (5, .str (crB u.l)), (6, .i64 ((u.i : Nat) : Int)), (10, .str (rR (crB u.l))), (11, .bool (okR (crB u.l))), (12, .str ((rR (crB u.l)).take q.1)), (13, .i64 ((q.1 : Nat) : Int))], [(1000, some ⟨.agg [.str [], .str [], .i64 0], 60, true⟩)], 1008⟩) (fun q => (rR (crB u.l)).length - q.1) ⟨0, Nat.zero_le _, rfl⟩ (StLe.mk [(1000, 1000)] rfl rfl ⟨⟨_, rfl, by first | rfl | (simp only [AV.ren]; congr 1; omega), rfl⟩, ⟨_, rfl, by first | rfl | (simp only [AV.ren]; congr 1; omega), rfl⟩, ⟨_, rfl, by first | rfl | (simp only [AV.ren]; congr 1; omega), rfl⟩, ⟨_, rfl, by first | rfl | (simp only [AV.ren]; congr 1; omega), rfl⟩, ⟨_, rfl, by first | rfl | (simp only [AV.ren]; congr 1; omega), rfl⟩, ⟨_, rfl, by first | rfl | (simp only [AV.ren]; congr 1; omega), rfl⟩, ⟨_, rfl, by first | rfl | (simp only [AV.ren]; congr 1; omega), rfl⟩, ⟨_, rfl, by first | rfl | (simp only [AV.ren]; congr 1; omega), rfl⟩, ⟨_, rfl, by first | rfl | (simp only [AV.ren]; congr 1; omega), rfl⟩, trivial⟩ ⟨⟨_, _, rfl, rfl, rfl, rfl, id, rfl⟩, trivial⟩) ?_
         rintro ⟨k, hk, hk0⟩
         try dsimp only
         refine .seq ?_
         refine .seq ?_
         refine .region ?_
         refine .q (op_move rfl) trivial rfl ?_
         refine .q (op_move rfl) trivial rfl ?_
         refine .q (op_len_str Tryd.underlying9 rfl) trivial rfl ?_
         refine .q (op_cmpI rfl rfl rfl) trivial rfl ?_
         refine .q (op_move rfl) trivial rfl ?_
         refine .split (fun hg83 => ?_) (fun hg83 => ?_)
         ·first | replace hg83 := of_decide_eq_true hg83 | replace hg83 := of_decide_eq_false hg83 | replace hg83 := eq_of_beq hg83 | replace hg83 := ne_of_beq_false hg83 | simp only [bne_iff_ne, ne_eq] at hg83 | simp only [bne_eq_false_iff_eq] at hg83
          refine .q (op_move rfl) ⟨_, rfl, rfl⟩ rfl ?_
          refine .q (op_move rfl) ⟨_, rfl, rfl⟩ rfl ?_
          refine .q (op_index_str Tryd.underlying9 rfl rfl rfl (by omega)) ⟨_, rfl, rfl⟩ rfl ?_
          refine .q (op_bin8 rfl rfl rfl) ⟨_, rfl, rfl⟩ rfl ?_
          refine .q (op_pick_true rfl rfl rfl) trivial rfl ?_
          refine .nil ?_
          show Ev _ _ _ _ _
          refine .cond rfl (fun hc88 => ?_) (fun hc88 => ?_)
          ·first | replace hc88 := of_decide_eq_true hc88 | replace hc88 := of_decide_eq_false hc88 | replace hc88 := eq_of_beq hc88 | replace hc88 := ne_of_beq_false hc88 | simp only [bne_iff_ne, ne_eq] at hc88 | simp only [bne_eq_false_iff_eq] at hc88
           refine .skip ?_
           show Ev _ _ _ _ _
           refine .seq ?_
           refine .block ?_
           refine .region ?_
           refine .q (op_move rfl) trivial rfl ?_
           refine .q (op_move rfl) trivial rfl ?_
           refine .q (op_move rfl) trivial rfl ?_
           refine .q (op_move rfl) trivial rfl ?_
           refine .q (op_addI rfl rfl ⟨by omega, by omega⟩) trivial rfl ?_
           refine .q (op_slice_str Tryd.underlying9 rfl (bnd_some rfl (l := k) rfl) (bnd_some rfl (l := k + 1) rfl) (by omega) (by omega)) trivial rfl ?_
           refine .as (.str [(rR (crB u.l)).getD k 0]) (congrArg AV.str (slice_one (show k < (rR (crB u.l)).length by omega))) ?_
           refine .q (op_addS rfl rfl (by simp; omega)) trivial rfl ?_
           refine .q (op_assign rfl) trivial rfl ?_
           refine .nil ?_
           show Ev _ _ _ _ _
           refine .region ?_
           refine .q (op_move rfl) trivial rfl ?_
           refine .q (op_addI rfl rfl ⟨by omega, by omega⟩) trivial rfl ?_
           refine .q (op_assign rfl) trivial rfl ?_
           refine .nil ?_
           exact ⟨⟨k + 1, by omega, con_step (by omega) hk0 hc88⟩, by (try dsimp only); omega, StLe.mk [(1000, 1000)] rfl rfl ⟨⟨_, rfl, by rfl, rfl⟩, ⟨_, rfl, by rfl, rfl⟩, ⟨_, rfl, by rfl, rfl⟩, ⟨_, rfl, by rfl, rfl⟩, ⟨_, rfl, by rfl, rfl⟩, ⟨_, rfl, by rfl, rfl⟩, ⟨_, rfl, by rfl, rfl⟩, ⟨_, rfl, by (show AV.str _ = AV.str _; congr 1; exact (take_one (by omega)).symm), rfl⟩, ⟨_, rfl, by rfl, rfl⟩, trivial⟩ ⟨⟨_, _, rfl, rfl, rfl, rfl, id, rfl⟩, trivial⟩⟩
          ·first | replace hc88 := of_decide_eq_true hc88 | replace hc88 := of_decide_eq_false hc88 | replace hc88 := eq_of_beq hc88 | replace hc88 := ne_of_beq_false hc88 | simp only [bne_iff_ne, ne_eq] at hc88 | simp only [bne_eq_false_iff_eq] at hc88
           refine .exit ?_
           show Ev _ _ _ _ _
           refine .seq ?_
           refine .seq ?_
           refine .region ?_
           refine .q (op_move rfl) trivial rfl ?_
           refine .q (op_notB rfl) trivial rfl ?_
           refine .q (op_move rfl) trivial rfl ?_
           refine .split (fun hg100 => ?_) (fun hg100 => ?_)
           ·skip
            refine .no ⟨_, rfl, rfl⟩ rfl ?_
            refine .no ⟨_, rfl, rfl⟩ rfl ?_
            refine .no ⟨_, rfl, rfl⟩ rfl ?_
            refine .q (op_pick_true rfl rfl rfl) trivial rfl ?_
            refine .nil ?_
            show Ev _ _ _ _ _
            refine .cond_true rfl rfl ?_
            refine .seq ?_
            refine .region ?_
            refine .q (op_buildS (r := .agg [.str [], .str [], .i64 12]) Tryd.underlying60 rfl zero60 rel_zero60 rfl rfl rfl rfl) trivial rfl ?_
            refine .as (.agg [.str ((allD s [] m0)).v, .str ((allD s [] m0)).r, .i64 ((((allD s [] m0)).e : Nat) : Int)]) (by rw [u.nover (show u.i < s.length by omega) (by first | exact hc23 | exact bne_eq_false_iff_eq.1 hc23) (con_all (by omega) hj0) h1 (by rw [ver_rR]; first | (rw [show okR (crB u.l) = false by simpa using hg100]; rfl) | (rw [show softOk (cutB 32 (rR (crB u.l))) = false by simpa using hc104]; simp))]; rfl) ?_
            refine .w (op_storeRow (by kernel_rfl) rfl rfl rfl rfl rfl (rfl) (rfl)) trivial rfl ?_
            refine .nil ?_
            show Ev _ _ _ _ _
            refine .ret ?_
            show RetOk _ _ _ _ _ _ _
            exact retc1 rfl (.inl rfl) ⟨_, _, _, _, rfl, rfl, rfl, rfl, rfl, Tryd.underlying60, rfl, (by kernel_rfl)⟩ trivial
           ·skip
            refine .q (op_move rfl) ⟨_, rfl, rfl⟩ rfl ?_
            refine .q (op_call (U := []) [] [] (rword_ev ((rR (crB u.l)).take k) (by simp; omega)) Tryd.func70 (by kernel_rfl) rfl rfl rfl (⟨⟨_, rfl, rfl, rfl⟩, trivial⟩) (trivial) (trivial) (trivial) rfl) ⟨_, rfl, rfl⟩ rfl ?_
            refine .as (.bool (softOk (cutB 32 (rR (crB u.l))))) (congrArg (fun z => AV.bool (softOk z)) (cut_at hk0 (by first | exact .inl (by omega) | exact .inr (bne_eq_false_iff_eq.1 hc88) | exact .inr (by simpa using hc88)) hk)) ?_
            refine .q (op_notB rfl) ⟨_, rfl, rfl⟩ rfl ?_
            refine .q (op_pick_false rfl rfl rfl) trivial rfl ?_
            refine .nil ?_
            show Ev _ _ _ _ _
            refine .cond rfl (fun hc104 => ?_) (fun hc104 => ?_)
            ·skip
             refine .seq ?_
             refine .region ?_
             refine .q (op_buildS (r := .agg [.str [], .str [], .i64 12]) Tryd.underlying60 rfl zero60 rel_zero60 rfl rfl rfl rfl) trivial rfl ?_
             refine .as (.agg [.str ((allD s [] m0)).v, .str ((allD s [] m0)).r, .i64 ((((allD s [] m0)).e : Nat) : Int)]) (by rw [u.nover (show u.i < s.length by omega) (by first | exact hc23 | exact bne_eq_false_iff_eq.1 hc23) (con_all (by omega) hj0) h1 (by rw [ver_rR]; first | (rw [show okR (crB u.l) = false by simpa using hg100]; rfl) | (rw [show softOk (cutB 32 (rR (crB u.l))) = false by simpa using hc104]; simp))]; rfl) ?_
             refine .w (op_storeRow (by kernel_rfl) rfl rfl rfl rfl rfl (rfl) (rfl)) trivial rfl ?_
             refine .nil ?_
             show Ev _ _ _ _ _
             refine .ret ?_
             show RetOk _ _ _ _ _ _ _
             exact retc1 rfl (.inl rfl) ⟨_, _, _, _, rfl, rfl, rfl, rfl, rfl, Tryd.underlying60, rfl, (by kernel_rfl)⟩ trivial
            ·skip
             refine .skip ?_
             show Ev _ _ _ _ _
             refine .seq ?_
             refine .region ?_
             refine .q (op_move rfl) trivial rfl ?_
             refine .q (op_move rfl) trivial rfl ?_
             refine .q (op_move rfl) trivial rfl ?_
             refine .q (op_addI rfl rfl ⟨by omega, by omega⟩) trivial rfl ?_
             refine .q (ap_slice_str_lo Tryd.underlying9 rfl (bnd_some rfl (l := u.i + 1) rfl) (by omega)) trivial rfl ?_
             refine .q (op_buildS (r := .agg [.str (crB u.l), .str (s.drop (u.i + 1)), .i64 0]) Tryd.underlying60 rfl zero60 rel_zero60 rfl rfl rfl rfl) trivial rfl ?_
             refine .as (.agg [.str ((allD s [] m0)).v, .str ((allD s [] m0)).r, .i64 ((((allD s [] m0)).e : Nat) : Int)]) (by rw [u.ver (show u.i < s.length by omega) (by first | exact hc23 | exact bne_eq_false_iff_eq.1 hc23) (con_all (by omega) hj0) h1 (by rw [ver_rR, show okR (crB u.l) = true by simpa using hg100, show softOk (cutB 32 (rR (crB u.l))) = true by simpa using hc104]; rfl)]; rfl) ?_
             refine .w (op_storeRow (by kernel_rfl) rfl rfl rfl rfl rfl (rfl) (rfl)) trivial rfl ?_
             refine .nil ?_
             show Ev _ _ _ _ _
             refine .ret ?_
             show RetOk _ _ _ _ _ _ _
             exact retc1 rfl (.inl rfl) ⟨_, _, _, _, rfl, rfl, rfl, rfl, rfl, Tryd.underlying60, rfl, (by kernel_rfl)⟩ trivial
         ·first | replace hg83 := of_decide_eq_true hg83 | replace hg83 := of_decide_eq_false hg83 | replace hg83 := eq_of_beq hg83 | replace hg83 := ne_of_beq_false hg83 | simp only [bne_iff_ne, ne_eq] at hg83 | simp only [bne_eq_false_iff_eq] at hg83
          refine .no ⟨_, rfl, rfl⟩ rfl ?_
          refine .no ⟨_, rfl, rfl⟩ rfl ?_
          refine .no ⟨_, rfl, rfl⟩ rfl ?_
          refine .no ⟨_, rfl, rfl⟩ rfl ?_
          refine .q (op_pick_false rfl rfl rfl) trivial rfl ?_
          refine .nil ?_
          show Ev _ _ _ _ _
          refine .cond_false rfl rfl ?_
          refine .exit ?_
          show Ev _ _ _ _ _
          refine .seq ?_
          refine .seq ?_
          refine .region ?_
          refine .q (op_move rfl) trivial rfl ?_
          refine .q (op_notB rfl) trivial rfl ?_
          refine .q (op_move rfl) trivial rfl ?_
          refine .split (fun hg100 => ?_) (fun hg100 => ?_)
          ·skip
           refine .no ⟨_, rfl, rfl⟩ rfl ?_
           refine .no ⟨_, rfl, rfl⟩ rfl ?_
           refine .no ⟨_, rfl, rfl⟩ rfl ?_
           refine .q (op_pick_true rfl rfl rfl) trivial rfl ?_
           refine .nil ?_
           show Ev _ _ _ _ _
           refine .cond_true rfl rfl ?_
           refine .seq ?_
           refine .region ?_
           refine .q (op_buildS (r := .agg [.str [], .str [], .i64 12]) Tryd.underlying60 rfl zero60 rel_zero60 rfl rfl rfl rfl) trivial rfl ?_
           refine .as (.agg [.str ((allD s [] m0)).v, .str ((allD s [] m0)).r, .i64 ((((allD s [] m0)).e : Nat) : Int)]) (by rw [u.nover (show u.i < s.length by omega) (by first | exact hc23 | exact bne_eq_false_iff_eq.1 hc23) (con_all (by omega) hj0) h1 (by rw [ver_rR]; first | (rw [show okR (crB u.l) = false by simpa using hg100]; rfl) | (rw [show softOk (cutB 32 (rR (crB u.l))) = false by simpa using hc104]; simp))]; rfl) ?_
           refine .w (op_storeRow (by kernel_rfl) rfl rfl rfl rfl rfl (rfl) (rfl)) trivial rfl ?_
           refine .nil ?_
           show Ev _ _ _ _ _
           refine .ret ?_
           show RetOk _ _ _ _ _ _ _
           exact retc1 rfl (.inl rfl) ⟨_, _, _, _, rfl, rfl, rfl, rfl, rfl, Tryd.underlying60, rfl, (by kernel_rfl)⟩ trivial
          ·skip
           refine .q (op_move rfl) ⟨_, rfl, rfl⟩ rfl ?_
           refine .q (op_call (U := []) [] [] (rword_ev ((rR (crB u.l)).take k) (by simp; omega)) Tryd.func70 (by kernel_rfl) rfl rfl rfl (⟨⟨_, rfl, rfl, rfl⟩, trivial⟩) (trivial) (trivial) (trivial) rfl) ⟨_, rfl, rfl⟩ rfl ?_
           refine .as (.bool (softOk (cutB 32 (rR (crB u.l))))) (congrArg (fun z => AV.bool (softOk z)) (cut_at hk0 (by first | exact .inl (by omega) | exact .inr (bne_eq_false_iff_eq.1 hc88) | exact .inr (by simpa using hc88)) hk)) ?_
           refine .q (op_notB rfl) ⟨_, rfl, rfl⟩ rfl ?_
           refine .q (op_pick_false rfl rfl rfl) trivial rfl ?_
           refine .nil ?_
           show Ev _ _ _ _ _
           refine .cond rfl (fun hc104 => ?_) (fun hc104 => ?_)
           ·skip
            refine .seq ?_
            refine .region ?_
            refine .q (op_buildS (r := .agg [.str [], .str [], .i64 12]) Tryd.underlying60 rfl zero60 rel_zero60 rfl rfl rfl rfl) trivial rfl ?_
            refine .as (.agg [.str ((allD s [] m0)).v, .str ((allD s [] m0)).r, .i64 ((((allD s [] m0)).e : Nat) : Int)]) (by rw [u.nover (show u.i < s.length by omega) (by first | exact hc23 | exact bne_eq_false_iff_eq.1 hc23) (con_all (by omega) hj0) h1 (by rw [ver_rR]; first | (rw [show okR (crB u.l) = false by simpa using hg100]; rfl) | (rw [show softOk (cutB 32 (rR (crB u.l))) = false by simpa using hc104]; simp))]; rfl) ?_
            refine .w (op_storeRow (by kernel_rfl) rfl rfl rfl rfl rfl (rfl) (rfl)) trivial rfl ?_
            refine .nil ?_
            show Ev _ _ _ _ _
            refine .ret ?_
            show RetOk _ _ _ _ _ _ _
            exact retc1 rfl (.inl rfl) ⟨_, _, _, _, rfl, rfl, rfl, rfl, rfl, Tryd.underlying60, rfl, (by kernel_rfl)⟩ trivial
           ·skip
            refine .skip ?_
            show Ev _ _ _ _ _
            refine .seq ?_
            refine .region ?_
            refine .q (op_move rfl) trivial rfl ?_
            refine .q (op_move rfl) trivial rfl ?_
            refine .q (op_move rfl) trivial rfl ?_
            refine .q (op_addI rfl rfl ⟨by omega, by omega⟩) trivial rfl ?_
            refine .q (ap_slice_str_lo Tryd.underlying9 rfl (bnd_some rfl (l := u.i + 1) rfl) (by omega)) trivial rfl ?_
            refine .q (op_buildS (r := .agg [.str (crB u.l), .str (s.drop (u.i + 1)), .i64 0]) Tryd.underlying60 rfl zero60 rel_zero60 rfl rfl rfl rfl) trivial rfl ?_
            refine .as (.agg [.str ((allD s [] m0)).v, .str ((allD s [] m0)).r, .i64 ((((allD s [] m0)).e : Nat) : Int)]) (by rw [u.ver (show u.i < s.length by omega) (by first | exact hc23 | exact bne_eq_false_iff_eq.1 hc23) (con_all (by omega) hj0) h1 (by rw [ver_rR, show okR (crB u.l) = true by simpa using hg100, show softOk (cutB 32 (rR (crB u.l))) = true by simpa using hc104]; rfl)]; rfl) ?_
            refine .w (op_storeRow (by kernel_rfl) rfl rfl rfl rfl rfl (rfl) (rfl)) trivial rfl ?_
            refine .nil ?_
            show Ev _ _ _ _ _
            refine .ret ?_
            show RetOk _ _ _ _ _ _ _
            exact retc1 rfl (.inl rfl) ⟨_, _, _, _, rfl, rfl, rfl, rfl, rfl, Tryd.underlying60, rfl, (by kernel_rfl)⟩ trivial
        ·refine .q (op_call (U := []) [] [] (after_n (crB u.l) ssh1 (by omega) (Bool.eq_false_iff.2 h3)) Tryd.func69 (by kernel_rfl) rfl rfl rfl (⟨⟨_, rfl, rfl, rfl⟩, ⟨_, rfl, rfl, rfl⟩, trivial⟩) (trivial) (trivial) (trivial) rfl) trivial rfl ?_
         refine .q (op_move rfl) trivial rfl ?_
         refine .q (op_extract rfl rfl) trivial rfl ?_
         refine .q (op_extract rfl rfl) trivial rfl ?_
         refine .q (op_assign rfl) trivial rfl ?_
         refine .q (op_assign rfl) trivial rfl ?_
         refine .nil ?_
         show Ev _ _ _ _ _
         refine .seq ?_
         refine Ev.weak (st2 := ⟨[(0, .str s), (1, .i64 ((u.m : Nat) : Int)), (4, .ptr 1000 0), (5, .str (crB u.l)), (6, .i64 ((u.i : Nat) : Int)), (10, .str (rR (crB u.l))), (11, .bool (okR (crB u.l)))], [(1000, some ⟨.agg [.str [], .str [], .i64 0], 60, true⟩)], 1008⟩) (StLe.mk [(1000, 1000)] rfl rfl ⟨⟨_, rfl, by rfl, rfl⟩, ⟨_, rfl, by rfl, rfl⟩, ⟨_, rfl, by rfl, rfl⟩, ⟨_, rfl, by rfl, rfl⟩, ⟨_, rfl, by rfl, rfl⟩, ⟨_, rfl, by (show AV.str _ = AV.str _; congr 1; symm; first | rfl | (unfold rR; rw [if_pos h2]; rfl) | (unfold rR; rw [if_neg h2, if_pos h3]; rfl) | (unfold rR; rw [if_neg h2, if_neg h3])), rfl⟩, ⟨_, rfl, by (show AV.bool _ = AV.bool _; congr 1; symm; first | rfl | (unfold okR; rw [h2]; rfl) | (unfold okR; rw [Bool.eq_false_iff.2 h2, h3]; rfl) | (unfold okR; rw [Bool.eq_false_iff.2 h2, Bool.eq_false_iff.2 h3]; rfl)), rfl⟩, trivial⟩ ⟨⟨_, _, rfl, rfl, rfl, rfl, id, rfl⟩, trivial⟩) ?_
         refine .region ?_
         refine .q (op_assign rfl) trivial rfl ?_
         refine .nil ?_
         show Ev _ _ _ _ _
         refine .seq ?_
         refine .seq ?_
         refine .region ?_
         refine .q (op_assign rfl) trivial rfl ?_
         refine .nil ?_
         show Ev _ _ _ _ _
         refine .block ?_
         refine Ev.loop (ι := { k : Nat // k ≤ (rR (crB u.l)).length ∧ ((rR (crB u.l)).take k).contains 32 = false }) (fun q => ⟨[(0, .str s), (1, .i64 ((u.m : Nat) : Int)), (4, .ptr 1000 0), (5, .str (crB u.l)), (6, .i64 ((u.i : Nat) : Int)), (10, .str (rR (crB u.l))), (11, .bool (okR (crB u.l))), (12, .str ((rR (crB u.l)).take q.1)), (13, .i64 ((q.1 : Nat) : Int))], [(1000, some ⟨.agg [.str [], .str [], .i64 0], 60, true⟩)], 1008⟩) (fun q => (rR (crB u.l)).length - q.1) ⟨0, Nat.zero_le _, rfl⟩ (StLe.mk [(1000, 1000)] rfl rfl ⟨⟨_, rfl, by first | rfl | (simp only [AV.ren]; congr 1; omega), rfl⟩, ⟨_, rfl, by first | rfl | (simp only [AV.ren]; congr 1; omega), rfl⟩, ⟨_, rfl, by first | rfl | (simp only [AV.ren]; congr 1; omega), rfl⟩, ⟨_, rfl, by first | rfl | (simp only [AV.ren]; congr 1; omega), rfl⟩, ⟨_, rfl, by first | rfl | (simp only [AV.ren]; congr 1; omega), rfl⟩, ⟨_, rfl, by first | rfl | (simp only [AV.ren]; congr 1; omega), rfl⟩, ⟨_, rfl, by first | rfl | (simp only [AV.ren]; congr 1; omega), rfl⟩, ⟨_, rfl, by first | rfl | (simp only [AV.ren]; congr 1; omega), rfl⟩, ⟨_, rfl, by first | rfl | (simp only [AV.ren]; congr 1; omega), rfl⟩, trivial⟩ ⟨⟨_, _, rfl, rfl, rfl, rfl, id, rfl⟩, trivial⟩) ?_
         rintro ⟨k, hk, hk0⟩
         try dsimp only
         refine .seq ?_
         refine .seq ?_
         refine .region ?_
         refine .q (op_move rfl) trivial rfl ?_
         refine .q (op_move rfl) trivial rfl ?_
         refine .q (op_len_str Tryd.underlying9 rfl) trivial rfl ?_
         refine .q (op_cmpI rfl rfl rfl) trivial rfl ?_
         refine .q (op_move rfl) trivial rfl ?_
         refine .split (fun hg83 => ?_) (fun hg83 => ?_)
         ·first | replace hg83 := of_decide_eq_true hg83 | replace hg83 := of_decide_eq_false hg83 | replace hg83 := eq_of_beq hg83 | replace hg83 := ne_of_beq_false hg83 | simp only [bne_iff_ne, ne_eq] at hg83 | simp only [bne_eq_false_iff_eq] at hg83
          refine .q (op_move rfl) ⟨_, rfl, rfl⟩ rfl ?_
          refine .q (op_move rfl) ⟨_, rfl, rfl⟩ rfl ?_
          refine .q (op_index_str Tryd.underlying9 rfl rfl rfl (by omega)) ⟨_, rfl, rfl⟩ rfl ?_
          refine .q (op_bin8 rfl rfl rfl) ⟨_, rfl, rfl⟩ rfl ?_
          refine .q (op_pick_true rfl rfl rfl) trivial rfl ?_
          refine .nil ?_
          show Ev _ _ _ _ _
          refine .cond rfl (fun hc88 => ?_) (fun hc88 => ?_)
          ·first | replace hc88 := of_decide_eq_true hc88 | replace hc88 := of_decide_eq_false hc88 | replace hc88 := eq_of_beq hc88 | replace hc88 := ne_of_beq_false hc88 | simp only [bne_iff_ne, ne_eq] at hc88 | simp only [bne_eq_false_iff_eq] at hc88
           refine .skip ?_
           show Ev _ _ _ _ _
           refine .seq ?_
           refine .block ?_
           refine .region ?_
           refine .q (op_move rfl) trivial rfl ?_
           refine .q (op_move rfl) trivial rfl ?_
           refine .q (op_move rfl) trivial rfl ?_
           refine .q (op_move rfl) trivial rfl ?_
           refine .q (op_addI rfl rfl ⟨by omega, by omega⟩) trivial rfl ?_
           refine .q (op_slice_str Tryd.underlying9 rfl (bnd_some rfl (l := k) rfl) (bnd_some rfl (l := k + 1) rfl) (by omega) (by omega)) trivial rfl ?_
           refine .as (.str [(rR (crB u.l)).getD k 0]) (congrArg AV.str (slice_one (show k < (rR (crB u.l)).length by omega))) ?_
           refine .q (op_addS rfl rfl (by simp; omega)) trivial rfl ?_
           refine .q (op_assign rfl) trivial rfl ?_
           refine .nil ?_
           show Ev _ _ _ _ _
           refine .region ?_
           refine .q (op_move rfl) trivial rfl ?_
           refine .q (op_addI rfl rfl ⟨by omega, by omega⟩) trivial rfl ?_
           refine .q (op_assign rfl) trivial rfl ?_
           refine .nil ?_
           exact ⟨⟨k + 1, by omega, con_step (by omega) hk0 hc88⟩, by (try dsimp only); omega, StLe.mk [(1000, 1000)] rfl rfl ⟨⟨_, rfl, by rfl, rfl⟩, ⟨_, rfl, by rfl, rfl⟩, ⟨_, rfl, by rfl, rfl⟩, ⟨_, rfl, by rfl, rfl⟩, ⟨_, rfl, by rfl, rfl⟩, ⟨_, rfl, by rfl, rfl⟩, ⟨_, rfl, by rfl, rfl⟩, ⟨_, rfl, by (show AV.str _ = AV.str _; congr 1; exact (take_one (by omega)).symm), rfl⟩, ⟨_, rfl, by rfl, rfl⟩, trivial⟩ ⟨⟨_, _, rfl, rfl, rfl, rfl, id, rfl⟩, trivial⟩⟩
          ·first | replace hc88 := of_decide_eq_true hc88 | replace hc88 := of_decide_eq_false hc88 | replace hc88 := eq_of_beq hc88 | replace hc88 := ne_of_beq_false hc88 | simp only [bne_iff_ne, ne_eq] at hc88 | simp only [bne_eq_false_iff_eq] at hc88
           refine .exit ?_
           show Ev _ _ _ _ _
           refine .seq ?_
           refine .seq ?_
           refine .region ?_
           refine .q (op_move rfl) trivial rfl ?_
           refine .q (op_notB rfl) trivial rfl ?_
           refine .q (op_move rfl) trivial rfl ?_
           refine .split (fun hg100 => ?_) (fun hg100 => ?_)
           ·skip
            refine .no ⟨_, rfl, rfl⟩ rfl ?_
            refine .no ⟨_, rfl, rfl⟩ rfl ?_
            refine .no ⟨_, rfl, rfl⟩ rfl ?_
            refine .q (op_pick_true rfl rfl rfl) trivial rfl ?_
            refine .nil ?_
            show Ev _ _ _ _ _
            refine .cond_true rfl rfl ?_
            refine .seq ?_
            refine .region ?_
            refine .q (op_buildS (r := .agg [.str [], .str [], .i64 12]) Tryd.underlying60 rfl zero60 rel_zero60 rfl rfl rfl rfl) trivial rfl ?_
            refine .as (.agg [.str ((allD s [] m0)).v, .str ((allD s [] m0)).r, .i64 ((((allD s [] m0)).e : Nat) : Int)]) (by rw [u.nover (show u.i < s.length by omega) (by first | exact hc23 | exact bne_eq_false_iff_eq.1 hc23) (con_all (by omega) hj0) h1 (by rw [ver_rR]; first | (rw [show okR (crB u.l) = false by simpa using hg100]; rfl) | (rw [show softOk (cutB 32 (rR (crB u.l))) = false by simpa using hc104]; simp))]; rfl) ?_
            refine .w (op_storeRow (by kernel_rfl) rfl rfl rfl rfl rfl (rfl) (rfl)) trivial rfl ?_
            refine .nil ?_
            show Ev _ _ _ _ _
            refine .ret ?_
            show RetOk _ _ _ _ _ _ _
            exact retc1 rfl (.inl rfl) ⟨_, _, _, _, rfl, rfl, rfl, rfl, rfl, Tryd.underlying60, rfl, (by kernel_rfl)⟩ trivial
           ·skip
            refine .q (op_move rfl) ⟨_, rfl, rfl⟩ rfl ?_
            refine .q (op_call (U := []) [] [] (rword_ev ((rR (crB u.l)).take k) (by simp; omega)) Tryd.func70 (by kernel_rfl) rfl rfl rfl (⟨⟨_, rfl, rfl, rfl⟩, trivial⟩) (trivial) (trivial) (trivial) rfl) ⟨_, rfl, rfl⟩ rfl ?_
            refine .as (.bool (softOk (cutB 32 (rR (crB u.l))))) (congrArg (fun z => AV.bool (softOk z)) (cut_at hk0 (by first | exact .inl (by omega) | exact .inr (bne_eq_false_iff_eq.1 hc88) | exact .inr (by simpa using hc88)) hk)) ?_
            refine .q (op_notB rfl) ⟨_, rfl, rfl⟩ rfl ?_
            refine .q (op_pick_false rfl rfl rfl) trivial rfl ?_
            refine .nil ?_
            show Ev _ _ _ _ _
            refine .cond rfl (fun hc104 => ?_) (fun hc104 => ?_)
            ·skip
             refine .seq ?_
             refine .region ?_
             refine .q (op_buildS (r := .agg [.str [], .str [], .i64 12]) Tryd.underlying60 rfl zero60 rel_zero60 rfl rfl rfl rfl) trivial rfl ?_
             refine .as (.agg [.str ((allD s [] m0)).v, .str ((allD s [] m0)).r, .i64 ((((allD s [] m0)).e : Nat) : Int)]) (by rw [u.nover (show u.i < s.length by omega) (by first | exact hc23 | exact bne_eq_false_iff_eq.1 hc23) (con_all (by omega) hj0) h1 (by rw [ver_rR]; first | (rw [show okR (crB u.l) = false by simpa using hg100]; rfl) | (rw [show softOk (cutB 32 (rR (crB u.l))) = false by simpa using hc104]; simp))]; rfl) ?_
             refine .w (op_storeRow (by kernel_rfl) rfl rfl rfl rfl rfl (rfl) (rfl)) trivial rfl ?_
             refine .nil ?_
             show Ev _ _ _ _ _
             refine .ret ?_
             show RetOk _ _ _ _ _ _ _
             exact retc1 rfl (.inl rfl) ⟨_, _, _, _, rfl, rfl, rfl, rfl, rfl, Tryd.underlying60, rfl, (by kernel_rfl)⟩ trivial
            ·skip
             refine .skip ?_
             show Ev _ _ _ _ _
             refine .seq ?_
             refine .region ?_
             refine .q (op_move rfl) trivial rfl ?_
             refine .q (op_move rfl) trivial rfl ?_
             refine .q (op_move rfl) trivial rfl ?_
             refine .q (op_addI rfl rfl ⟨by omega, by omega⟩) trivial rfl ?_
             refine .q (ap_slice_str_lo Tryd.underlying9 rfl (bnd_some rfl (l := u.i + 1) rfl) (by omega)) trivial rfl ?_
             refine .q (op_buildS (r := .agg [.str (crB u.l), .str (s.drop (u.i + 1)), .i64 0]) Tryd.underlying60 rfl zero60 rel_zero60 rfl rfl rfl rfl) trivial rfl ?_
             refine .as (.agg [.str ((allD s [] m0)).v, .str ((allD s [] m0)).r, .i64 ((((allD s [] m0)).e : Nat) : Int)]) (by rw [u.ver (show u.i < s.length by omega) (by first | exact hc23 | exact bne_eq_false_iff_eq.1 hc23) (con_all (by omega) hj0) h1 (by rw [ver_rR, show okR (crB u.l) = true by simpa using hg100, show softOk (cutB 32 (rR (crB u.l))) = true by simpa using hc104]; rfl)]; rfl) ?_
             refine .w (op_storeRow (by kernel_rfl) rfl rfl rfl rfl rfl (rfl) (rfl)) trivial rfl ?_
             refine .nil ?_
             show Ev _ _ _ _ _
             refine .ret ?_
             show RetOk _ _ _ _ _ _ _
             exact retc1 rfl (.inl rfl) ⟨_, _, _, _, rfl, rfl, rfl, rfl, rfl, Tryd.underlying60, rfl, (by kernel_rfl)⟩ trivial
         ·first | replace hg83 := of_decide_eq_true hg83 | replace hg83 := of_decide_eq_false hg83 | replace hg83 := eq_of_beq hg83 | replace hg83 := ne_of_beq_false hg83 | simp only [bne_iff_ne, ne_eq] at hg83 | simp only [bne_eq_false_iff_eq] at hg83
          refine .no ⟨_, rfl, rfl⟩ rfl ?_
          refine .no ⟨_, rfl, rfl⟩ rfl ?_
          refine .no ⟨_, rfl, rfl⟩ rfl ?_
          refine .no ⟨_, rfl, rfl⟩ rfl ?_
          refine .q (op_pick_false rfl rfl rfl) trivial rfl ?_
          refine .nil ?_
          show Ev _ _ _ _ _
          refine .cond_false rfl rfl ?_
          refine .exit ?_
          show Ev _ _ _ _ _
          refine .seq ?_
          refine .seq ?_
          refine .region ?_
          refine .q (op_move rfl) trivial rfl ?_
          refine .q (op_notB rfl) trivial rfl ?_
          refine .q (op_move rfl) trivial rfl ?_
          refine .split (fun hg100 => ?_) (fun hg100 => ?_)
          ·skip
           refine .no ⟨_, rfl, rfl⟩ rfl ?_
           refine .no ⟨_, rfl, rfl⟩ rfl ?_
           refine .no ⟨_, rfl, rfl⟩ rfl ?_
           refine .q (op_pick_true rfl rfl rfl) trivial rfl ?_
           refine .nil ?_
           show Ev _ _ _ _ _
           refine .cond_true rfl rfl ?_
           refine .seq ?_
           refine .region ?_
           refine .q (op_buildS (r := .agg [.str [], .str [], .i64 12]) Tryd.underlying60 rfl zero60 rel_zero60 rfl rfl rfl rfl) trivial rfl ?_
           refine .as (.agg [.str ((allD s [] m0)).v, .str ((allD s [] m0)).r, .i64 ((((allD s [] m0)).e : Nat) : Int)]) (by rw [u.nover (show u.i < s.length by omega) (by first | exact hc23 | exact bne_eq_false_iff_eq.1 hc23) (con_all (by omega) hj0) h1 (by rw [ver_rR]; first | (rw [show okR (crB u.l) = false by simpa using hg100]; rfl) | (rw [show softOk (cutB 32 (rR (crB u.l))) = false by simpa using hc104]; simp))]; rfl) ?_
           refine .w (op_storeRow (by kernel_rfl) rfl rfl rfl rfl rfl (rfl) (rfl)) trivial rfl ?_
           refine .nil ?_
           show Ev _ _ _ _ _
           refine .ret ?_
           show RetOk _ _ _ _ _ _ _
           exact retc1 rfl (.inl rfl) ⟨_, _, _, _, rfl, rfl, rfl, rfl, rfl, Tryd.underlying60, rfl, (by kernel_rfl)⟩ trivial
          ·skip
           refine .q (op_move rfl) ⟨_, rfl, rfl⟩ rfl ?_
           refine .q (op_call (U := []) [] [] (rword_ev ((rR (crB u.l)).take k) (by simp; omega)) Tryd.func70 (by kernel_rfl) rfl rfl rfl (⟨⟨_, rfl, rfl, rfl⟩, trivial⟩) (trivial) (trivial) (trivial) rfl) ⟨_, rfl, rfl⟩ rfl ?_
           refine .as (.bool (softOk (cutB 32 (rR (crB u.l))))) (congrArg (fun z => AV.bool (softOk z)) (cut_at hk0 (by first | exact .inl (by omega) | exact .inr (bne_eq_false_iff_eq.1 hc88) | exact .inr (by simpa using hc88)) hk)) ?_
           refine .q (op_notB rfl) ⟨_, rfl, rfl⟩ rfl ?_
           refine .q (op_pick_false rfl rfl rfl) trivial rfl ?_
           refine .nil ?_
           show Ev _ _ _ _ _
           refine .cond rfl (fun hc104 => ?_) (fun hc104 => ?_)
           ·skip
            refine .seq ?_
            refine .region ?_
            refine .q (op_buildS (r := .agg [.str [], .str [], .i64 12]) Tryd.underlying60 rfl zero60 rel_zero60 rfl rfl rfl rfl) trivial rfl ?_
            refine .as (.agg [.str ((allD s [] m0)).v, .str ((allD s [] m0)).r, .i64 ((((allD s [] m0)).e : Nat) : Int)]) (by rw [u.nover (show u.i < s.length by omega) (by first | exact hc23 | exact bne_eq_false_iff_eq.1 hc23) (con_all (by omega) hj0) h1 (by rw [ver_rR]; first | (rw [show okR (crB u.l) = false by simpa using hg100]; rfl) | (rw [show softOk (cutB 32 (rR (crB u.l))) = false by simpa using hc104]; simp))]; rfl) ?_
            refine .w (op_storeRow (by kernel_rfl) rfl rfl rfl rfl rfl (rfl) (rfl)) trivial rfl ?_
            refine .nil ?_
            show Ev _ _ _ _ _
            refine .ret ?_
            show RetOk _ _ _ _ _ _ _
            exact retc1 rfl (.inl rfl) ⟨_, _, _, _, rfl, rfl, rfl, rfl, rfl, Tryd.underlying60, rfl, (by kernel_rfl)⟩ trivial
           ·skip
            refine .skip ?_
            show Ev _ _ _ _ _
            refine .seq ?_
            refine .region ?_
            refine .q (op_move rfl) trivial rfl ?_
            refine .q (op_move rfl) trivial rfl ?_
            refine .q (op_move rfl) trivial rfl ?_
            refine .q (op_addI rfl rfl ⟨by omega, by omega⟩) trivial rfl ?_
            refine .q (ap_slice_str_lo Tryd.underlying9 rfl (bnd_some rfl (l := u.i + 1) rfl) (by omega)) trivial rfl ?_
            refine .q (op_buildS (r := .agg [.str (crB u.l), .str (s.drop (u.i + 1)), .i64 0]) Tryd.underlying60 rfl zero60 rel_zero60 rfl rfl rfl rfl) trivial rfl ?_
            refine .as (.agg [.str ((allD s [] m0)).v, .str ((allD s [] m0)).r, .i64 ((((allD s [] m0)).e : Nat) : Int)]) (by rw [u.ver (show u.i < s.length by omega) (by first | exact hc23 | exact bne_eq_false_iff_eq.1 hc23) (con_all (by omega) hj0) h1 (by rw [ver_rR, show okR (crB u.l) = true by simpa using hg100, show softOk (cutB 32 (rR (crB u.l))) = true by simpa using hc104]; rfl)]; rfl) ?_
            refine .w (op_storeRow (by kernel_rfl) rfl rfl rfl rfl rfl (rfl) (rfl)) trivial rfl ?_
            refine .nil ?_
            show Ev _ _ _ _ _
            refine .ret ?_
            show RetOk _ _ _ _ _ _ _
            exact retc1 rfl (.inl rfl) ⟨_, _, _, _, rfl, rfl, rfl, rfl, rfl, Tryd.underlying60, rfl, (by kernel_rfl)⟩ trivial
      ·refine .q (op_call (U := []) [] [] (after_n (crB u.l) sshP (by omega) (Bool.eq_false_iff.2 h1)) Tryd.func69 (by kernel_rfl) rfl rfl rfl (⟨⟨_, rfl, rfl, rfl⟩, ⟨_, rfl, rfl, rfl⟩, trivial⟩) (trivial) (trivial) (trivial) rfl) trivial rfl ?_
       refine .q (op_move rfl) trivial rfl ?_
       refine .q (op_extract rfl rfl) trivial rfl ?_
       refine .q (op_extract rfl rfl) trivial rfl ?_
       refine .q (op_assign rfl) trivial rfl ?_
       refine .q (op_assign rfl) trivial rfl ?_
       refine .nil ?_
       show Ev _ _ _ _ _
       refine .seq ?_
       refine .region ?_
       refine .q (op_move rfl) trivial rfl ?_
       refine .nil ?_
       show Ev _ _ _ _ _
       refine .cond_false rfl (rfl) ?_
       refine .skip ?_
       show Ev _ _ _ _ _
       refine .seq ?_
       refine .seq ?_
       refine .region ?_
       refine .q (op_move rfl) trivial rfl ?_
       refine .q (op_cmpI rfl rfl rfl) trivial rfl ?_
       refine .nil ?_
       show Ev _ _ _ _ _
       refine .cond rfl (fun hc113 => ?_) (fun hc113 => ?_)
       ·first | replace hc113 := of_decide_eq_true hc113 | replace hc113 := of_decide_eq_false hc113 | replace hc113 := eq_of_beq hc113 | replace hc113 := ne_of_beq_false hc113 | simp only [bne_iff_ne, ne_eq] at hc113 | simp only [bne_eq_false_iff_eq] at hc113
        refine .seq ?_
        refine .region ?_
        refine .q (op_buildS (r := .agg [.str [], .str [], .i64 12]) Tryd.underlying60 rfl zero60 rel_zero60 rfl rfl rfl rfl) trivial rfl ?_
        refine .as (.agg [.str ((allD s [] m0)).v, .str ((allD s [] m0)).r, .i64 ((((allD s [] m0)).e : Nat) : Int)]) (by rw [u.none (show u.i < s.length by omega) (by first | exact hc23 | exact bne_eq_false_iff_eq.1 hc23) (con_all (by omega) hj0) (Bool.eq_false_iff.2 h1) (by omega)]; rfl) ?_
        refine .w (op_storeRow (by kernel_rfl) rfl rfl rfl rfl rfl (rfl) (rfl)) trivial rfl ?_
        refine .nil ?_
        show Ev _ _ _ _ _
        refine .ret ?_
        show RetOk _ _ _ _ _ _ _
        exact retc1 rfl (.inl rfl) ⟨_, _, _, _, rfl, rfl, rfl, rfl, rfl, Tryd.underlying60, rfl, (by kernel_rfl)⟩ trivial
       ·first | replace hc113 := of_decide_eq_true hc113 | replace hc113 := of_decide_eq_false hc113 | replace hc113 := eq_of_beq hc113 | replace hc113 := ne_of_beq_false hc113 | simp only [bne_iff_ne, ne_eq] at hc113 | simp only [bne_eq_false_iff_eq] at hc113
        refine .skip ?_
        show Ev _ _ _ _ _
        refine .seq ?_
        refine .region ?_
        refine .q (op_move rfl) trivial rfl ?_
        refine .q (op_subI rfl rfl ⟨by omega, by omega⟩) trivial rfl ?_
        refine .q (op_assign rfl) trivial rfl ?_
        refine .nil ?_
        show Ev _ _ _ _ _
        refine .region ?_
        refine .q (op_assign rfl) trivial rfl ?_
        refine .nil ?_
        show Ev _ _ _ _ _
        refine .region ?_
        refine .q (op_move rfl) trivial rfl ?_
        refine .q (op_addI rfl rfl ⟨by omega, by omega⟩) trivial rfl ?_
        refine .q (op_assign rfl) trivial rfl ?_
        refine .nil ?_
        exact ⟨u.next (show u.i < s.length by omega) (by first | exact hc23 | exact bne_eq_false_iff_eq.1 hc23) (con_all (by omega) hj0) (Bool.eq_false_iff.2 h1) (by omega), show s.length - (u.i + 1) < s.length - u.i by omega, StLe.mk [(1000, 1000)] rfl rfl ⟨⟨_, rfl, by rfl, rfl⟩, ⟨_, rfl, by (simp only [AV.ren, RI11.next]; congr 1; omega), rfl⟩, ⟨_, rfl, by rfl, rfl⟩, ⟨_, rfl, by rfl, rfl⟩, ⟨_, rfl, by rfl, rfl⟩, trivial⟩ ⟨⟨_, _, rfl, rfl, rfl, rfl, id, rfl⟩, trivial⟩⟩
    ·first | replace hc44 := of_decide_eq_true hc44 | replace hc44 := of_decide_eq_false hc44 | replace hc44 := eq_of_beq hc44 | replace hc44 := ne_of_beq_false hc44 | simp only [bne_iff_ne, ne_eq] at hc44 | simp only [bne_eq_false_iff_eq] at hc44
     refine .skip ?_
     show Ev _ _ _ _ _
     refine .seq ?_
     refine .seq ?_
     refine Ev.weak (st2 := ⟨[(0, .str s), (1, .i64 ((u.m : Nat) : Int)), (4, .ptr 1000 0), (5, .str (crB u.l)), (6, .i64 ((u.i : Nat) : Int))], [(1000, some ⟨.agg [.str [], .str [], .i64 0], 60, true⟩)], 1008⟩) (StLe.mk [(1000, 1000)] rfl rfl ⟨⟨_, rfl, by rfl, rfl⟩, ⟨_, rfl, by rfl, rfl⟩, ⟨_, rfl, by rfl, rfl⟩, ⟨_, rfl, by first | rfl | (show AV.str u.l = AV.str (crB u.l); rw [crB_last0 (by first | exact .inr hc44 | exact .inl (bne_eq_false_iff_eq.1 hg37) | exact .inl hg37)]), rfl⟩, ⟨_, rfl, by rfl, rfl⟩, trivial⟩ ⟨⟨_, _, rfl, rfl, rfl, rfl, id, rfl⟩, trivial⟩) ?_
     refine .region ?_
     refine .q (op_assign rfl) trivial rfl ?_
     refine .nil ?_
     show Ev _ _ _ _ _
     refine .block ?_
     refine Ev.loop (ι := { j : Nat // j ≤ (crB u.l).length ∧ ((crB u.l).take j).contains 0 = false }) (fun q => ⟨[(0, .str s), (1, .i64 ((u.m : Nat) : Int)), (4, .ptr 1000 0), (5, .str (crB u.l)), (6, .i64 ((u.i : Nat) : Int)), (7, .i64 ((q.1 : Nat) : Int))], [(1000, some ⟨.agg [.str [], .str [], .i64 0], 60, true⟩)], 1008⟩) (fun q => (crB u.l).length - q.1) ⟨0, Nat.zero_le _, rfl⟩ (StLe.mk [(1000, 1000)] rfl rfl ⟨⟨_, rfl, by first | rfl | (simp only [AV.ren]; congr 1; omega), rfl⟩, ⟨_, rfl, by first | rfl | (simp only [AV.ren]; congr 1; omega), rfl⟩, ⟨_, rfl, by first | rfl | (simp only [AV.ren]; congr 1; omega), rfl⟩, ⟨_, rfl, by first | rfl | (simp only [AV.ren]; congr 1; omega), rfl⟩, ⟨_, rfl, by first | rfl | (simp only [AV.ren]; congr 1; omega), rfl⟩, ⟨_, rfl, by first | rfl | (simp only [AV.ren]; congr 1; omega), rfl⟩, trivial⟩ ⟨⟨_, _, rfl, rfl, rfl, rfl, id, rfl⟩, trivial⟩) ?_
     rintro ⟨j, hj, hj0⟩
     try dsimp only
     refine .seq ?_
     refine .seq ?_
     refine .region ?_
     refine .q (op_move rfl) trivial rfl ?_
     refine .q (op_move rfl) trivial rfl ?_
     refine .q (op_len_str Tryd.underlying9 rfl) trivial rfl ?_
     refine .q (op_cmpI rfl rfl rfl) trivial rfl ?_
     refine .nil ?_
     show Ev _ _ _ _ _
     refine .cond rfl (fun hc53 => ?_) (fun hc53 => ?_)
     ·first | replace hc53 := of_decide_eq_true hc53 | replace hc53 := of_decide_eq_false hc53 | replace hc53 := eq_of_beq hc53 | replace hc53 := ne_of_beq_false hc53 | simp only [bne_iff_ne, ne_eq] at hc53 | simp only [bne_eq_false_iff_eq] at hc53
      refine .skip ?_
      show Ev _ _ _ _ _
      refine .seq ?_
      refine .block ?_
      refine .seq ?_
      refine .region ?_
      refine .q (op_move rfl) trivial rfl ?_
      refine .q (op_move rfl) trivial rfl ?_
      refine .q (op_index_str Tryd.underlying9 rfl rfl rfl (by omega)) trivial rfl ?_
      refine .q (op_bin8 rfl rfl rfl) trivial rfl ?_
      refine .nil ?_
      show Ev _ _ _ _ _
      refine .cond rfl (fun hc59 => ?_) (fun hc59 => ?_)
      ·first | replace hc59 := of_decide_eq_true hc59 | replace hc59 := of_decide_eq_false hc59 | replace hc59 := eq_of_beq hc59 | replace hc59 := ne_of_beq_false hc59 | simp only [bne_iff_ne, ne_eq] at hc59 | simp only [bne_eq_false_iff_eq] at hc59
       refine .seq ?_
       refine .region ?_
       refine .q (op_buildS (r := .agg [.str [], .str [], .i64 3]) Tryd.underlying60 rfl zero60 rel_zero60 rfl rfl rfl rfl) trivial rfl ?_
       refine .as (.agg [.str ((allD s [] m0)).v, .str ((allD s [] m0)).r, .i64 ((((allD s [] m0)).e : Nat) : Int)]) (by rw [u.zero (show u.i < s.length by omega) (by first | exact hc23 | exact bne_eq_false_iff_eq.1 hc23) (con_hit (j := j) (by omega) hc59)]; rfl) ?_
       refine .w (op_storeRow (by kernel_rfl) rfl rfl rfl rfl rfl (rfl) (rfl)) trivial rfl ?_
       refine .nil ?_
       show Ev _ _ _ _ _
       refine .ret ?_
       show RetOk _ _ _ _ _ _ _
       exact retc1 rfl (.inl rfl) ⟨_, _, _, _, rfl, rfl, rfl, rfl, rfl, Tryd.underlying60, rfl, (by kernel_rfl)⟩ trivial
      ·first | replace hc59 := of_decide_eq_true hc59 | replace hc59 := of_decide_eq_false hc59 | replace hc59 := eq_of_beq hc59 | replace hc59 := ne_of_beq_false hc59 | simp only [bne_iff_ne, ne_eq] at hc59 | simp only [bne_eq_false_iff_eq] at hc59
       refine .skip ?_
       show Ev _ _ _ _ _
       refine .region ?_
       refine .q (op_move rfl) trivial rfl ?_
       refine .q (op_addI rfl rfl ⟨by omega, by omega⟩) trivial rfl ?_
       refine .q (op_assign rfl) trivial rfl ?_
       refine .nil ?_
       exact ⟨⟨j + 1, by omega, con_step (by omega) hj0 hc59⟩, by (try dsimp only); omega, StLe.mk [(1000, 1000)] rfl rfl ⟨⟨_, rfl, by first | rfl | (simp only [AV.ren]; congr 1; omega), rfl⟩, ⟨_, rfl, by first | rfl | (simp only [AV.ren]; congr 1; omega), rfl⟩, ⟨_, rfl, by first | rfl | (simp only [AV.ren]; congr 1; omega), rfl⟩, ⟨_, rfl, by first | rfl | (simp only [AV.ren]; congr 1; omega), rfl⟩, ⟨_, rfl, by first | rfl | (simp only [AV.ren]; congr 1; omega), rfl⟩, ⟨_, rfl, by first | rfl | (simp only [AV.ren]; congr 1; omega), rfl⟩, trivial⟩ ⟨⟨_, _, rfl, rfl, rfl, rfl, id, rfl⟩, trivial⟩⟩
     ·first | replace hc53 := of_decide_eq_true hc53 | replace hc53 := of_decide_eq_false hc53 | replace hc53 := eq_of_beq hc53 | replace hc53 := ne_of_beq_false hc53 | simp only [bne_iff_ne, ne_eq] at hc53 | simp only [bne_eq_false_iff_eq] at hc53
      refine .exit ?_
      show Ev _ _ _ _ _
      refine .seq ?_
      refine .seq ?_
      refine .region ?_
      refine .q (op_move rfl) trivial rfl ?_
      refine dite (begB sshP (crB u.l) = true) (fun h1 => ?_) (fun h1 => ?_)
      ·refine .q (op_call (U := []) [] [] (after_y (crB u.l) sshP (by omega) h1) Tryd.func69 (by kernel_rfl) rfl rfl rfl (⟨⟨_, rfl, rfl, rfl⟩, ⟨_, rfl, rfl, rfl⟩, trivial⟩) (trivial) (trivial) (trivial) rfl) trivial rfl ?_
       refine .q (op_move rfl) trivial rfl ?_
       refine .q (op_extract rfl rfl) trivial rfl ?_
       refine .q (op_extract rfl rfl) trivial rfl ?_
       refine .q (op_assign rfl) trivial rfl ?_
       refine .q (op_assign rfl) trivial rfl ?_
       refine .nil ?_
       show Ev _ _ _ _ _
       refine .seq ?_
       refine .region ?_
       refine .q (op_move rfl) trivial rfl ?_
       refine .nil ?_
       show Ev _ _ _ _ _
       refine .cond_true rfl (rfl) ?_
       refine .seq ?_
       refine .region ?_
       refine .q (op_move rfl) trivial rfl ?_
       refine dite (begB ssh2 (crB u.l) = true) (fun h2 => ?_) (fun h2 => ?_)
       ·refine .q (op_call (U := []) [] [] (after_y (crB u.l) ssh2 (by omega) h2) Tryd.func69 (by kernel_rfl) rfl rfl rfl (⟨⟨_, rfl, rfl, rfl⟩, ⟨_, rfl, rfl, rfl⟩, trivial⟩) (trivial) (trivial) (trivial) rfl) trivial rfl ?_
        refine .q (op_move rfl) trivial rfl ?_
        refine .q (op_extract rfl rfl) trivial rfl ?_
        refine .q (op_extract rfl rfl) trivial rfl ?_
        refine .q (op_assign rfl) trivial rfl ?_
        refine .q (op_assign rfl) trivial rfl ?_
        refine .nil ?_
        show Ev _ _ _ _ _
        refine .seq ?_
        refine .seq ?_
        refine .region ?_
        refine .q (op_move rfl) trivial rfl ?_
        refine .q (op_notB rfl) trivial rfl ?_
        refine .nil ?_
        show Ev _ _ _ _ _
        refine .cond_false rfl (rfl) ?_
        refine .skip ?_
        show Ev _ _ _ _ _
        refine .seq ?_
        refine Ev.weak (st2 := ⟨[(0, .str s), (1, .i64 ((u.m : Nat) : Int)), (4, .ptr 1000 0), (5, .str (crB u.l)), (6, .i64 ((u.i : Nat) : Int)), (10, .str (rR (crB u.l))), (11, .bool (okR (crB u.l)))], [(1000, some ⟨.agg [.str [], .str [], .i64 0], 60, true⟩)], 1008⟩) (StLe.mk [(1000, 1000)] rfl rfl ⟨⟨_, rfl, by rfl, rfl⟩, ⟨_, rfl, by rfl, rfl⟩, ⟨_, rfl, by rfl, rfl⟩, ⟨_, rfl, by rfl, rfl⟩, ⟨_, rfl, by rfl, rfl⟩, ⟨_, rfl, by (show AV.str _ = AV.str _; congr 1; symm; first | rfl | (unfold rR; rw [if_pos h2]; rfl) | (unfold rR; rw [if_neg h2, if_pos h3]; rfl) | (unfold rR; rw [if_neg h2, if_neg h3])), rfl⟩, ⟨_, rfl, by (show AV.bool _ = AV.bool _; congr 1; symm; first | rfl | (unfold okR; rw [h2]; rfl) | (unfold okR; rw [Bool.eq_false_iff.2 h2, h3]; rfl) | (unfold okR; rw [Bool.eq_false_iff.2 h2, Bool.eq_false_iff.2 h3]; rfl)), rfl⟩, trivial⟩ ⟨⟨_, _, rfl, rfl, rfl, rfl, id, rfl⟩, trivial⟩) ?_
        refine .region ?_
        refine .q (op_assign rfl) trivial rfl ?_
        refine .nil ?_
        show Ev _ _ _ _ _
        refine .seq ?_
        refine .seq ?_
        refine .region ?_
        refine .q (op_assign rfl) trivial rfl ?_
        refine .nil ?_
        show Ev _ _ _ _ _
        refine .block ?_
        refine Ev.loop (ι := { k : Nat // k ≤ (rR (crB u.l)).length ∧ ((rR (crB u.l)).take k).contains 32 = false }) (fun q => ⟨[(0, .str s), (1, .i64 ((u.m : Nat) : Int)), (4, .ptr 1000 0), (5, .str (crB u.l)), (6, .i64 ((u.i : Nat) : Int)), (10, .str (rR (crB u.l))), (11, .bool (okR (crB u.l))), (12, .str ((rR (crB u.l)).take q.1)), (13, .i64 ((q.1 : Nat) : Int))], [(1000, some ⟨.agg [.str [], .str [], .i64 0], 60, true⟩)], 1008⟩) (fun q => (rR (crB u.l)).length - q.1) ⟨0, Nat.zero_le _, rfl⟩ (StLe.mk [(1000, 1000)] rfl rfl ⟨⟨_, rfl, by first | rfl | (simp only [AV.ren]; congr 1; omega), rfl⟩, ⟨_, rfl, by first | rfl | (simp only [AV.ren]; congr 1; omega), rfl⟩, ⟨_, rfl, by first | rfl | (simp only [AV.ren]; congr 1; omega), rfl⟩, ⟨_, rfl, by first | rfl | (simp only [AV.ren]; congr 1; omega), rfl⟩, ⟨_, rfl, by first | rfl | (simp only [AV.ren]; congr 1; omega), rfl⟩, ⟨_, rfl, by first | rfl | (simp only [AV.ren]; congr 1; omega), rfl⟩, ⟨_, rfl, by first | rfl | (simp only [AV.ren]; congr 1; omega), rfl⟩, ⟨_, rfl, by first | rfl | (simp only [AV.ren]; congr 1; omega), rfl⟩, ⟨_, rfl, by first | rfl | (simp only [AV.ren]; congr 1; omega), rfl⟩, trivial⟩ ⟨⟨_, _, rfl, rfl, rfl, rfl, id, rfl⟩, trivial⟩) ?_
        rintro ⟨k, hk, hk0⟩
        try dsimp only
        refine .seq ?_
        refine .seq ?_
        refine .region ?_
        refine .q (op_move rfl) trivial rfl ?_
        refine .q (op_move rfl) trivial rfl ?_
        refine .q (op_len_str Tryd.underlying9 rfl) trivial rfl ?_
        refine .q (op_cmpI rfl rfl rfl) trivial rfl ?_
        refine .q (op_move rfl) trivial rfl ?_
        refine .split (fun hg83 => ?_) (fun hg83 => ?_)
        ·first | replace hg83 := of_decide_eq_true hg83 | replace hg83 := of_decide_eq_false hg83 | replace hg83 := eq_of_beq hg83 | replace hg83 := ne_of_beq_false hg83 | simp only [bne_iff_ne, ne_eq] at hg83 | simp only [bne_eq_false_iff_eq] at hg83
         refine .q (op_move rfl) ⟨_, rfl, rfl⟩ rfl ?_
         refine .q (op_move rfl) ⟨_, rfl, rfl⟩ rfl ?_
         refine .q (op_index_str Tryd.underlying9 rfl rfl rfl (by omega)) ⟨_, rfl, rfl⟩ rfl ?_
         refine .q (op_bin8 rfl rfl rfl) ⟨_, rfl, rfl⟩ rfl ?_
         refine .q (op_pick_true rfl rfl rfl) trivial rfl ?_
         refine .nil ?_
         show Ev _ _ _ _ _
         refine .cond rfl (fun hc88 => ?_) (fun hc88 => ?_)
         ·first | replace hc88 := of_decide_eq_true hc88 | replace hc88 := of_decide_eq_false hc88 | replace hc88 := eq_of_beq hc88 | replace hc88 := ne_of_beq_false hc88 | simp only [bne_iff_ne, ne_eq] at hc88 | simp only [bne_eq_false_iff_eq] at hc88
          refine .skip ?_
          show Ev _ _ _ _ _
          refine .seq ?_
          refine .block ?_
          refine .region ?_
          refine .q (op_move rfl) trivial rfl ?_
          refine .q (op_move rfl) trivial rfl ?_
          refine .q (op_move rfl) trivial rfl ?_
          refine .q (op_move rfl) trivial rfl ?_
          refine .q (op_addI rfl rfl ⟨by omega, by omega⟩) trivial rfl ?_
          refine .q (op_slice_str Tryd.underlying9 rfl (bnd_some rfl (l := k) rfl) (bnd_some rfl (l := k + 1) rfl) (by omega) (by omega)) trivial rfl ?_
          refine .as (.str [(rR (crB u.l)).getD k 0]) (congrArg AV.str (slice_one (show k < (rR (crB u.l)).length by omega))) ?_
          refine .q (op_addS rfl rfl (by simp; omega)) trivial rfl ?_
          refine .q (op_assign rfl) trivial rfl ?_
          refine .nil ?_
          show Ev _ _ _ _ _
          refine .region ?_
          refine .q (op_move rfl) trivial rfl ?_
          refine .q (op_addI rfl rfl ⟨by omega, by omega⟩) trivial rfl ?_
          refine .q (op_assign rfl) trivial rfl ?_
          refine .nil ?_
          exact ⟨⟨k + 1, by omega, con_step (by omega) hk0 hc88⟩, by (try dsimp only); omega, StLe.mk [(1000, 1000)] rfl rfl ⟨⟨_, rfl, by rfl, rfl⟩, ⟨_, rfl, by rfl, rfl⟩, ⟨_, rfl, by rfl, rfl⟩, ⟨_, rfl, by rfl, rfl⟩, ⟨_, rfl, by rfl, rfl⟩, ⟨_, rfl, by rfl, rfl⟩, ⟨_, rfl, by rfl, rfl⟩, ⟨_, rfl, by (show AV.str _ = AV.str _; congr 1; exact (take_one (by omega)).symm), rfl⟩, ⟨_, rfl, by rfl, rfl⟩, trivial⟩ ⟨⟨_, _, rfl, rfl, rfl, rfl, id, rfl⟩, trivial⟩⟩
         ·first | replace hc88 := of_decide_eq_true hc88 | replace hc88 := of_decide_eq_false hc88 | replace hc88 := eq_of_beq hc88 | replace hc88 := ne_of_beq_false hc88 | simp only [bne_iff_ne, ne_eq] at hc88 | simp only [bne_eq_false_iff_eq] at hc88
          refine .exit ?_
          show Ev _ _ _ _ _
          refine .seq ?_
          refine .seq ?_
          refine .region ?_
          refine .q (op_move rfl) trivial rfl ?_
          refine .q (op_notB rfl) trivial rfl ?_
          refine .q (op_move rfl) trivial rfl ?_
          refine .split (fun hg100 => ?_) (fun hg100 => ?_)
          ·skip
           refine .no ⟨_, rfl, rfl⟩ rfl ?_
           refine .no ⟨_, rfl, rfl⟩ rfl ?_
           refine .no ⟨_, rfl, rfl⟩ rfl ?_
           refine .q (op_pick_true rfl rfl rfl) trivial rfl ?_
           refine .nil ?_
           show Ev _ _ _ _ _
           refine .cond_true rfl rfl ?_
           refine .seq ?_
           refine .region ?_
           refine .q (op_buildS (r := .agg [.str [], .str [], .i64 12]) Tryd.underlying60 rfl zero60 rel_zero60 rfl rfl rfl rfl) trivial rfl ?_
           refine .as (.agg [.str ((allD s [] m0)).v, .str ((allD s [] m0)).r, .i64 ((((allD s [] m0)).e : Nat) : Int)]) (by rw [u.nover (show u.i < s.length by omega) (by first | exact hc23 | exact bne_eq_false_iff_eq.1 hc23) (con_all (by omega) hj0) h1 (by rw [ver_rR]; first | (rw [show okR (crB u.l) = false by simpa using hg100]; rfl) | (rw [show softOk (cutB 32 (rR (crB u.l))) = false by simpa using hc104]; simp))]; rfl) ?_
           refine .w (op_storeRow (by kernel_rfl) rfl rfl rfl rfl rfl (rfl) (rfl)) trivial rfl ?_
           refine .nil ?_
           show Ev _ _ _ _ _
           refine .ret ?_
           show RetOk _ _ _ _ _ _ _
           exact retc1 rfl (.inl rfl) ⟨_, _, _, _, rfl, rfl, rfl, rfl, rfl, Tryd.underlying60, rfl, (by kernel_rfl)⟩ trivial
          ·skip
           refine .q (op_move rfl) ⟨_, rfl, rfl⟩ rfl ?_
           refine .q (op_call (U := []) [] [] (rword_ev ((rR (crB u.l)).take k) (by simp; omega)) Tryd.func70 (by kernel_rfl) rfl rfl rfl (⟨⟨_, rfl, rfl, rfl⟩, trivial⟩) (trivial) (trivial) (trivial) rfl) ⟨_, rfl, rfl⟩ rfl ?_
           refine .as (.bool (softOk (cutB 32 (rR (crB u.l))))) (congrArg (fun z => AV.bool (softOk z)) (cut_at hk0 (by first | exact .inl (by omega) | exact .inr (bne_eq_false_iff_eq.1 hc88) | exact .inr (by simpa using hc88)) hk)) ?_
           refine .q (op_notB rfl) ⟨_, rfl, rfl⟩ rfl ?_
           refine .q (op_pick_false rfl rfl rfl) trivial rfl ?_
           refine .nil ?_
           show Ev _ _ _ _ _
           refine .cond rfl (fun hc104 => ?_) (fun hc104 => ?_)
           ·skip
            refine .seq ?_
            refine .region ?_
            refine .q (op_buildS (r := .agg [.str [], .str [], .i64 12]) Tryd.underlying60 rfl zero60 rel_zero60 rfl rfl rfl rfl) trivial rfl ?_
            refine .as (.agg [.str ((allD s [] m0)).v, .str ((allD s [] m0)).r, .i64 ((((allD s [] m0)).e : Nat) : Int)]) (by rw [u.nover (show u.i < s.length by omega) (by first | exact hc23 | exact bne_eq_false_iff_eq.1 hc23) (con_all (by omega) hj0) h1 (by rw [ver_rR]; first | (rw [show okR (crB u.l) = false by simpa using hg100]; rfl) | (rw [show softOk (cutB 32 (rR (crB u.l))) = false by simpa using hc104]; simp))]; rfl) ?_
            refine .w (op_storeRow (by kernel_rfl) rfl rfl rfl rfl rfl (rfl) (rfl)) trivial rfl ?_
            refine .nil ?_
            show Ev _ _ _ _ _
            refine .ret ?_
            show RetOk _ _ _ _ _ _ _
            exact retc1 rfl (.inl rfl) ⟨_, _, _, _, rfl, rfl, rfl, rfl, rfl, Tryd.underlying60, rfl, (by kernel_rfl)⟩ trivial
           ·skip
            refine .skip ?_
            show Ev _ _ _ _ _
            refine .seq ?_
            refine .region ?_
            refine .q (op_move rfl) trivial rfl ?_
            refine .q (op_move rfl) trivial rfl ?_
            refine .q (op_move rfl) trivial rfl ?_
            refine .q (op_addI rfl rfl ⟨by omega, by omega⟩) trivial rfl ?_
            refine .q (ap_slice_str_lo Tryd.underlying9 rfl (bnd_some rfl (l := u.i + 1) rfl) (by omega)) trivial rfl ?_
            refine .q (op_buildS (r := .agg [.str (crB u.l), .str (s.drop (u.i + 1)), .i64 0]) Tryd.underlying60 rfl zero60 rel_zero60 rfl rfl rfl rfl) trivial rfl ?_
            refine .as (.agg [.str ((allD s [] m0)).v, .str ((allD s [] m0)).r, .i64 ((((allD s [] m0)).e : Nat) : Int)]) (by rw [u.ver (show u.i < s.length by omega) (by first | exact hc23 | exact bne_eq_false_iff_eq.1 hc23) (con_all (by omega) hj0) h1 (by rw [ver_rR, show okR (crB u.l) = true by simpa using hg100, show softOk (cutB 32 (rR (crB u.l))) = true by simpa using hc104]; rfl)]; rfl) ?_
            refine .w (op_storeRow (by kernel_rfl) rfl rfl rfl rfl rfl (rfl) (rfl)) trivial rfl ?_
            refine .nil ?_
            show Ev _ _ _ _ _
            refine .ret ?_
            show RetOk _ _ _ _ _ _ _
            exact retc1 rfl (.inl rfl) ⟨_, _, _, _, rfl, rfl, rfl, rfl, rfl, Tryd.underlying60, rfl, (by kernel_rfl)⟩ trivial
        ·first | replace hg83 := of_decide_eq_true hg83 | replace hg83 := of_decide_eq_false hg83 | replace hg83 := eq_of_beq hg83 | replace hg83 := ne_of_beq_false hg83 | simp only [bne_iff_ne, ne_eq] at hg83 | simp only [bne_eq_false_iff_eq] at hg83
         refine .no ⟨_, rfl, rfl⟩ rfl ?_
         refine .no ⟨_, rfl, rfl⟩ rfl ?_
         refine .no ⟨_, rfl, rfl⟩ rfl ?_
         refine .no ⟨_, rfl, rfl⟩ rfl ?_
         refine .q (op_pick_false rfl rfl rfl) trivial rfl ?_
         refine .nil ?_
         show Ev _ _ _ _ _
         refine .cond_false rfl rfl ?_
         refine .exit ?_
         show Ev _ _ _ _ _
         refine .seq ?_
         refine .seq ?_
         refine .region ?_
         refine .q (op_move rfl) trivial rfl ?_
         refine .q (op_notB rfl) trivial rfl ?_
         refine .q (op_move rfl) trivial rfl ?_
         refine .split (fun hg100 => ?_) (fun hg100 => ?_)
         ·skip
          refine .no ⟨_, rfl, rfl⟩ rfl ?_
          refine .no ⟨_, rfl, rfl⟩ rfl ?_
          refine .no ⟨_, rfl, rfl⟩ rfl ?_
          refine .q (op_pick_true rfl rfl rfl) trivial rfl ?_
          refine .nil ?_
          show Ev _ _ _ _ _
          refine .cond_true rfl rfl ?_
          refine .seq ?_
          refine .region ?_
          refine .q (op_buildS (r := .agg [.str [], .str [], .i64 12]) Tryd.underlying60 rfl zero60 rel_zero60 rfl rfl rfl rfl) trivial rfl ?_
          refine .as (.agg [.str ((allD s [] m0)).v, .str ((allD s [] m0)).r, .i64 ((((allD s [] m0)).e : Nat) : Int)]) (by rw [u.nover (show u.i < s.length by omega) (by first | exact hc23 | exact bne_eq_false_iff_eq.1 hc23) (con_all (by omega) hj0) h1 (by rw [ver_rR]; first | (rw [show okR (crB u.l) = false by simpa using hg100]; rfl) | (rw [show softOk (cutB 32 (rR (crB u.l))) = false by simpa using hc104]; simp))]; rfl) ?_
          refine .w (op_storeRow (by kernel_rfl) rfl rfl rfl rfl rfl (rfl) (rfl)) trivial rfl ?_
          refine .nil ?_
          show Ev _ _ _ _ _
          refine .ret ?_
          show RetOk _ _ _ _ _ _ _
          exact retc1 rfl (.inl rfl) ⟨_, _, _, _, rfl, rfl, rfl, rfl, rfl, Tryd.underlying60, rfl, (by kernel_rfl)⟩ trivial
         ·skip
          refine .q (op_move rfl) ⟨_, rfl, rfl⟩ rfl ?_
          refine .q (op_call (U := []) [] [] (rword_ev ((rR (crB u.l)).take k) (by simp; omega)) Tryd.func70 (by kernel_rfl) rfl rfl rfl (⟨⟨_, rfl, rfl, rfl⟩, trivial⟩) (trivial) (trivial) (trivial) rfl) ⟨_, rfl, rfl⟩ rfl ?_
          refine .as (.bool (softOk (cutB 32 (rR (crB u.l))))) (congrArg (fun z => AV.bool (softOk z)) (cut_at hk0 (by first | exact .inl (by omega) | exact .inr (bne_eq_false_iff_eq.1 hc88) | exact .inr (by simpa using hc88)) hk)) ?_
          refine .q (op_notB rfl) ⟨_, rfl, rfl⟩ rfl ?_
          refine .q (op_pick_false rfl rfl rfl) trivial rfl ?_
          refine .nil ?_
          show Ev _ _ _ _ _
          refine .cond rfl (fun hc104 => ?_) (fun hc104 => ?_)
          ·skip
           refine .seq ?_
           refine .region ?_
           refine .q (op_buildS (r := .agg [.str [], .str [], .i64 12]) Tryd.underlying60 rfl zero60 rel_zero60 rfl rfl rfl rfl) trivial rfl ?_
           refine .as (.agg [.str ((allD s [] m0)).v, .str ((allD s [] m0)).r, .i64 ((((allD s [] m0)).e : Nat) : Int)]) (by rw [u.nover (show u.i < s.length by omega) (by first | exact hc23 | exact bne_eq_false_iff_eq.1 hc23) (con_all (by omega) hj0) h1 (by rw [ver_rR]; first | (rw [show okR (crB u.l) = false by simpa using hg100]; rfl) | (rw [show softOk (cutB 32 (rR (crB u.l))) = false by simpa using hc104]; simp))]; rfl) ?_
           refine .w (op_storeRow (by kernel_rfl) rfl rfl rfl rfl rfl (rfl) (rfl)) trivial rfl ?_
           refine .nil ?_
           show Ev _ _ _ _ _
           refine .ret ?_
           show RetOk _ _ _ _ _ _ _
           exact retc1 rfl (.inl rfl) ⟨_, _, _, _, rfl, rfl, rfl, rfl, rfl, Tryd.underlying60, rfl, (by kernel_rfl)⟩ trivial
          ·skip
           refine .skip ?_
           show Ev _ _ _ _ _
           refine .seq ?_
           refine .region ?_
           refine .q (op_move rfl) trivial rfl ?_
           refine .q (op_move rfl) trivial rfl ?_
           refine .q (op_move rfl) trivial rfl ?_
           refine .q (op_addI rfl rfl ⟨by omega, by omega⟩) trivial rfl ?_
           refine .q (ap_slice_str_lo Tryd.underlying9 rfl (bnd_some rfl (l := u.i + 1) rfl) (by omega)) trivial rfl ?_
           refine .q (op_buildS (r := .agg [.str (crB u.l), .str (s.drop (u.i + 1)), .i64 0]) Tryd.underlying60 rfl zero60 rel_zero60 rfl rfl rfl rfl) trivial rfl ?_
           refine .as (.agg [.str ((allD s [] m0)).v, .str ((allD s [] m0)).r, .i64 ((((allD s [] m0)).e : Nat) : Int)]) (by rw [u.ver (show u.i < s.length by omega) (by first | exact hc23 | exact bne_eq_false_iff_eq.1 hc23) (con_all (by omega) hj0) h1 (by rw [ver_rR, show okR (crB u.l) = true by simpa using hg100, show softOk (cutB 32 (rR (crB u.l))) = true by simpa using hc104]; rfl)]; rfl) ?_
           refine .w (op_storeRow (by kernel_rfl) rfl rfl rfl rfl rfl (rfl) (rfl)) trivial rfl ?_
           refine .nil ?_
           show Ev _ _ _ _ _
           refine .ret ?_
           show RetOk _ _ _ _ _ _ _
           exact retc1 rfl (.inl rfl) ⟨_, _, _, _, rfl, rfl, rfl, rfl, rfl, Tryd.underlying60, rfl, (by kernel_rfl)⟩ trivial
       ·refine .q (op_call (U := []) [] [] (after_n (crB u.l) ssh2 (by omega) (Bool.eq_false_iff.2 h2)) Tryd.func69 (by kernel_rfl) rfl rfl rfl (⟨⟨_, rfl, rfl, rfl⟩, ⟨_, rfl, rfl, rfl⟩, trivial⟩) (trivial) (trivial) (trivial) rfl) trivial rfl ?_
        refine .q (op_move rfl) trivial rfl ?_
        refine .q (op_extract rfl rfl) trivial rfl ?_
        refine .q (op_extract rfl rfl) trivial rfl ?_
        refine .q (op_assign rfl) trivial rfl ?_
        refine .q (op_assign rfl) trivial rfl ?_
        refine .nil ?_
        show Ev _ _ _ _ _
        refine .seq ?_
        refine .seq ?_
        refine .region ?_
        refine .q (op_move rfl) trivial rfl ?_
        refine .q (op_notB rfl) trivial rfl ?_
        refine .nil ?_
        show Ev _ _ _ _ _
        refine .cond_true rfl (rfl) ?_
        refine .region ?_
        refine .q (op_move rfl) trivial rfl ?_
        refine dite (begB ssh1 (crB u.l) = true) (fun h3 => ?_) (fun h3 => ?_)
        ·refine .q (op_call (U := []) [] [] (after_y (crB u.l) ssh1 (by omega) h3) Tryd.func69 (by kernel_rfl) rfl rfl rfl (⟨⟨_, rfl, rfl, rfl⟩, ⟨_, rfl, rfl, rfl⟩, trivial⟩) (trivial) (trivial) (trivial) rfl) trivial rfl ?_
         refine .q (op_move rfl) trivial rfl ?_
         refine .q (op_extract rfl rfl) trivial rfl ?_
         refine .q (op_extract rfl rfl) trivial rfl ?_
         refine .q (op_assign rfl) trivial rfl ?_
         refine .q (op_assign rfl) trivial rfl ?_
         refine .nil ?_
         show Ev _ _ _ _ _
         refine .seq ?_
         refine Ev.weak (st2 := ⟨[(0, .str s), (1, .i64 ((u.m : Nat) : Int)), (4, .ptr 1000 0), (5, .str (crB u.l)), (6, .i64 ((u.i : Nat) : Int)), (10, .str (rR (crB u.l))), (11, .bool (okR (crB u.l)))], [(1000, some ⟨.agg [.str [], .str [], .i64 0], 60, true⟩)], 1008⟩) (StLe.mk [(1000, 1000)] rfl rfl ⟨⟨_, rfl, by rfl, rfl⟩, ⟨_, rfl, by rfl, rfl⟩, ⟨_, rfl, by rfl, rfl⟩, ⟨_, rfl, by rfl, rfl⟩, ⟨_, rfl, by rfl, rfl⟩, ⟨_, rfl, by (show AV.str _ = AV.str _; congr 1; symm; first | rfl | (unfold rR; rw [if_pos h2]; rfl) | (unfold rR; rw [if_neg h2, if_pos h3]; rfl) | (unfold rR; rw [if_neg h2, if_neg h3])), rfl⟩, ⟨_, rfl, by (show AV.bool _ = AV.bool _; congr 1; symm; first | rfl | (unfold okR; rw [h2]; rfl) | (unfold okR; rw [Bool.eq_false_iff.2 h2, h3]; rfl) | (unfold okR; rw [Bool.eq_false_iff.2 h2, Bool.eq_false_iff.2 h3]; rfl)), rfl⟩, trivial⟩ ⟨⟨_, _, rfl, rfl, rfl, rfl, id, rfl⟩, trivial⟩) ?_
         refine .region ?_
         refine .q (op_assign rfl) trivial rfl ?_
         refine .nil ?_
         show Ev _ _ _ _ _
         refine .seq ?_
         refine .seq ?_
         refine .region ?_
         refine .q (op_assign rfl) trivial rfl ?_
         refine .nil ?_
         show Ev _ _ _ _ _
         refine .block ?_
         refine Ev.loop (ι := { k : Nat // k ≤ (rR (crB u.l)).length ∧ ((rR (crB u.l)).take k).contains 32 = false }) (fun q => ⟨[(0, .str s), (1, .i64 ((u.m : Nat) : Int)), (4, .ptr 1000 0), (5, .str (crB u.l)), (6, .i64 ((u.i : Nat) : Int)), (10, .str (rR (crB u.l))), (11, .bool (okR (crB u.l))), (12, .str ((rR (crB u.l)).take q.1)), (13, .i64 ((q.1 : Nat) : Int))], [(1000, some ⟨.agg [.str [], .str [], .i64 0], 60, true⟩)], 1008⟩) (fun q => (rR (crB u.l)).length - q.1) ⟨0, Nat.zero_le _, rfl⟩ (StLe.mk [(1000, 1000)] rfl rfl ⟨⟨_, rfl, by first | rfl | (simp only [AV.ren]; congr 1; omega), rfl⟩, ⟨_, rfl, by first | rfl | (simp only [AV.ren]; congr 1; omega), rfl⟩, ⟨_, rfl, by first | rfl | (simp only [AV.ren]; congr 1; omega), rfl⟩, ⟨_, rfl, by first | rfl | (simp only [AV.ren]; congr 1; omega), rfl⟩, ⟨_, rfl, by first | rfl | (simp only [AV.ren]; congr 1; omega), rfl⟩, ⟨_, rfl, by first | rfl | (simp only [AV.ren]; congr 1; omega), rfl⟩, ⟨_, rfl, by first | rfl | (simp only [AV.ren]; congr 1; omega), rfl⟩, ⟨_, rfl, by first | rfl | (simp only [AV.ren]; congr 1; omega), rfl⟩, ⟨_, rfl, by first | rfl | (simp only [AV.ren]; congr 1; omega), rfl⟩, trivial⟩ ⟨⟨_, _, rfl, rfl, rfl, rfl, id, rfl⟩, trivial⟩) ?_
         rintro ⟨k, hk, hk0⟩
         try dsimp only
         refine .seq ?_
         refine .seq ?_
         refine .region ?_
         refine .q (op_move rfl) trivial rfl ?_
         refine .q (op_move rfl) trivial rfl ?_
         refine .q (op_len_str Tryd.underlying9 rfl) trivial rfl ?_
         refine .q (op_cmpI rfl rfl rfl) trivial rfl ?_
         refine .q (op_move rfl) trivial rfl ?_
         refine .split (fun hg83 => ?_) (fun hg83 => ?_)
         ·first | replace hg83 := of_decide_eq_true hg83 | replace hg83 := of_decide_eq_false hg83 | replace hg83 := eq_of_beq hg83 | replace hg83 := ne_of_beq_false hg83 | simp only [bne_iff_ne, ne_eq] at hg83 | simp only [bne_eq_false_iff_eq] at hg83
          refine .q (op_move rfl) ⟨_, rfl, rfl⟩ rfl ?_
          refine .q (op_move rfl) ⟨_, rfl, rfl⟩ rfl ?_
          refine .q (op_index_str Tryd.underlying9 rfl rfl rfl (by omega)) ⟨_, rfl, rfl⟩ rfl ?_
          refine .q (op_bin8 rfl rfl rfl) ⟨_, rfl, rfl⟩ rfl ?_
          refine .q (op_pick_true rfl rfl rfl) trivial rfl ?_
          refine .nil ?_
          show Ev _ _ _ _ _
          refine .cond rfl (fun hc88 => ?_) (fun hc88 => ?_)
          ·first | replace hc88 := of_decide_eq_true hc88 | replace hc88 := of_decide_eq_false hc88 | replace hc88 := eq_of_beq hc88 | replace hc88 := ne_of_beq_false hc88 | simp only [bne_iff_ne, ne_eq] at hc88 | simp only [bne_eq_false_iff_eq] at hc88
           refine .skip ?_
           show Ev _ _ _ _ _
           refine .seq ?_
           refine .block ?_
           refine .region ?_
           refine .q (op_move rfl) trivial rfl ?_
           refine .q (op_move rfl) trivial rfl ?_
           refine .q (op_move rfl) trivial rfl ?_
           refine .q (op_move rfl) trivial rfl ?_
           refine .q (op_addI rfl rfl ⟨by omega, by omega⟩) trivial rfl ?_
           refine .q (op_slice_str Tryd.underlying9 rfl (bnd_some rfl (l := k) rfl) (bnd_some rfl (l := k + 1) rfl) (by omega) (by omega)) trivial rfl ?_
           refine .as (.str [(rR (crB u.l)).getD k 0]) (congrArg AV.str (slice_one (show k < (rR (crB u.l)).length by omega))) ?_
           refine .q (op_addS rfl rfl (by simp; omega)) trivial rfl ?_
           refine .q (op_assign rfl) trivial rfl ?_
           refine .nil ?_
           show Ev _ _ _ _ _
           refine .region ?_
           refine .q (op_move rfl) trivial rfl ?_
           refine .q (op_addI rfl rfl ⟨by omega, by omega⟩) trivial rfl ?_
           refine .q (op_assign rfl) trivial rfl ?_
           refine .nil ?_
           exact ⟨⟨k + 1, by omega, con_step (by omega) hk0 hc88⟩, by (try dsimp only); omega, StLe.mk [(1000, 1000)] rfl rfl ⟨⟨_, rfl, by rfl, rfl⟩, ⟨_, rfl, by rfl, rfl⟩, ⟨_, rfl, by rfl, rfl⟩, ⟨_, rfl, by rfl, rfl⟩, ⟨_, rfl, by rfl, rfl⟩, ⟨_, rfl, by rfl, rfl⟩, ⟨_, rfl, by rfl, rfl⟩, ⟨_, rfl, by (show AV.str _ = AV.str _; congr 1; exact (take_one (by omega)).symm), rfl⟩, ⟨_, rfl, by rfl, rfl⟩, trivial⟩ ⟨⟨_, _, rfl, rfl, rfl, rfl, id, rfl⟩, trivial⟩⟩
          ·first | replace hc88 := of_decide_eq_true hc88 | replace hc88 := of_decide_eq_false hc88 | replace hc88 := eq_of_beq hc88 | replace hc88 := ne_of_beq_false hc88 | simp only [bne_iff_ne, ne_eq] at hc88 | simp only [bne_eq_false_iff_eq] at hc88
           refine .exit ?_
           show Ev _ _ _ _ _
           refine .seq ?_
           refine .seq ?_
           refine .region ?_
           refine .q (op_move rfl) trivial rfl ?_
           refine .q (op_notB rfl) trivial rfl ?_
           refine .q (op_move rfl) trivial rfl ?_
           refine .split (fun hg100 => ?_) (fun hg100 => ?_)
           ·skip
            refine .no ⟨_, rfl, rfl⟩ rfl ?_
            refine .no ⟨_, rfl, rfl⟩ rfl ?_
            refine .no ⟨_, rfl, rfl⟩ rfl ?_
            refine .q (op_pick_true rfl rfl rfl) trivial rfl ?_
            refine .nil ?_
            show Ev _ _ _ _ _
            refine .cond_true rfl rfl ?_
            refine .seq ?_
            refine .region ?_
            refine .q (op_buildS (r := .agg [.str [], .str [], .i64 12]) Tryd.underlying60 rfl zero60 rel_zero60 rfl rfl rfl rfl) trivial rfl ?_
            refine .as (.agg [.str ((allD s [] m0)).v, .str ((allD s [] m0)).r, .i64 ((((allD s [] m0)).e : Nat) : Int)]) (by rw [u.nover (show u.i < s.length by omega) (by first | exact hc23 | exact bne_eq_false_iff_eq.1 hc23) (con_all (by omega) hj0) h1 (by rw [ver_rR]; first | (rw [show okR (crB u.l) = false by simpa using hg100]; rfl) | (rw [show softOk (cutB 32 (rR (crB u.l))) = false by simpa using hc104]; simp))]; rfl) ?_
            refine .w (op_storeRow (by kernel_rfl) rfl rfl rfl rfl rfl (rfl) (rfl)) trivial rfl ?_
            refine .nil ?_
            show Ev _ _ _ _ _
            refine .ret ?_
            show RetOk _ _ _ _ _ _ _
            exact retc1 rfl (.inl rfl) ⟨_, _, _, _, rfl, rfl, rfl, rfl, rfl, Tryd.underlying60, rfl, (by kernel_rfl)⟩ trivial
           ·skip
            refine .q (op_move rfl) ⟨_, rfl, rfl⟩ rfl ?_
            refine .q (op_call (U := []) [] [] (rword_ev ((rR (crB u.l)).take k) (by simp; omega)) Tryd.func70 (by kernel_rfl) rfl rfl rfl (⟨⟨_, rfl, rfl, rfl⟩, trivial⟩) (trivial) (trivial) (trivial) rfl) ⟨_, rfl, rfl⟩ rfl ?_
            refine .as (.bool (softOk (cutB 32 (rR (crB u.l))))) (congrArg (fun z => AV.bool (softOk z)) (cut_at hk0 (by first | exact .inl (by omega) | exact .inr (bne_eq_false_iff_eq.1 hc88) | exact .inr (by simpa using hc88)) hk)) ?_
            refine .q (op_notB rfl) ⟨_, rfl, rfl⟩ rfl ?_
            refine .q (op_pick_false rfl rfl rfl) trivial rfl ?_
            refine .nil ?_
            show Ev _ _ _ _ _
            refine .cond rfl (fun hc104 => ?_) (fun hc104 => ?_)
            ·skip
             refine .seq ?_
             refine .region ?_
             refine .q (op_buildS (r := .agg [.str [], .str [], .i64 12]) Tryd.underlying60 rfl zero60 rel_zero60 rfl rfl rfl rfl) trivial rfl ?_
             refine .as (.agg [.str ((allD s [] m0)).v, .str ((allD s [] m0)).r, .i64 ((((allD s [] m0)).e : Nat) : Int)]) (by rw [u.nover (show u.i < s.length by omega) (by first | exact hc23 | exact bne_eq_false_iff_eq.1 hc23) (con_all (by omega) hj0) h1 (by rw [ver_rR]; first | (rw [show okR (crB u.l) = false by simpa using hg100]; rfl) | (rw [show softOk (cutB 32 (rR (crB u.l))) = false by simpa using hc104]; simp))]; rfl) ?_
             refine .w (op_storeRow (by kernel_rfl) rfl rfl rfl rfl rfl (rfl) (rfl)) trivial rfl ?_
             refine .nil ?_
             show Ev _ _ _ _ _
             refine .ret ?_
             show RetOk _ _ _ _ _ _ _
             exact retc1 rfl (.inl rfl) ⟨_, _, _, _, rfl, rfl, rfl, rfl, rfl, Tryd.underlying60, rfl, (by kernel_rfl)⟩ trivial
            ·skip
             refine .skip ?_
             show Ev _ _ _ _ _
             refine .seq ?_
             refine .region ?_
             refine .q (op_move rfl) trivial rfl ?_
             refine .q (op_move rfl) trivial rfl ?_
             refine .q (op_move rfl) trivial rfl ?_
             refine .q (op_addI rfl rfl ⟨by omega, by omega⟩) trivial rfl ?_
             refine .q (ap_slice_str_lo Tryd.underlying9 rfl (bnd_some rfl (l := u.i + 1) rfl) (by omega)) trivial rfl ?_
             refine .q (op_buildS (r := .agg [.str (crB u.l), .str (s.drop (u.i + 1)), .i64 0]) Tryd.underlying60 rfl zero60 rel_zero60 rfl rfl rfl rfl) trivial rfl ?_
             refine .as (.agg [.str ((allD s [] m0)).v, .str ((allD s [] m0)).r, .i64 ((((allD s [] m0)).e : Nat) : Int)]) (by rw [u.ver (show u.i < s.length by omega) (by first | exact hc23 | exact bne_eq_false_iff_eq.1 hc23) (con_all (by omega) hj0) h1 (by rw [ver_rR, show okR (crB u.l) = true by simpa using hg100, show softOk (cutB 32 (rR (crB u.l))) = true by simpa using hc104]; rfl)]; rfl) ?_
             refine .w (op_storeRow (by kernel_rfl) rfl rfl rfl rfl rfl (rfl) (rfl)) trivial rfl ?_
             refine .nil ?_
             show Ev _ _ _ _ _
             refine .ret ?_
             show RetOk _ _ _ _ _ _ _
             exact retc1 rfl (.inl rfl) ⟨_, _, _, _, rfl, rfl, rfl, rfl, rfl, Tryd.underlying60, rfl, (by kernel_rfl)⟩ trivial
         ·first | replace hg83 := of_decide_eq_true hg83 | replace hg83 := of_decide_eq_false hg83 | replace hg83 := eq_of_beq hg83 | replace hg83 := ne_of_beq_false hg83 | simp only [bne_iff_ne, ne_eq] at hg83 | simp only [bne_eq_false_iff_eq] at hg83
          refine .no ⟨_, rfl, rfl⟩ rfl ?_
          refine .no ⟨_, rfl, rfl⟩ rfl ?_
          refine .no ⟨_, rfl, rfl⟩ rfl ?_
          refine .no ⟨_, rfl, rfl⟩ rfl ?_
          refine .q (op_pick_false rfl rfl rfl) trivial rfl ?_
          refine .nil ?_
          show Ev _ _ _ _ _
          refine .cond_false rfl rfl ?_
          refine .exit ?_
          show Ev _ _ _ _ _
          refine .seq ?_
          refine .seq ?_
          refine .region ?_
          refine .q (op_move rfl) trivial rfl ?_
          refine .q (op_notB rfl) trivial rfl ?_
          refine .q (op_move rfl) trivial rfl ?_
          refine .split (fun hg100 => ?_) (fun hg100 => ?_)
          ·skip
           refine .no ⟨_, rfl, rfl⟩ rfl ?_
           refine .no ⟨_, rfl, rfl⟩ rfl ?_
           refine .no ⟨_, rfl, rfl⟩ rfl ?_
           refine .q (op_pick_true rfl rfl rfl) trivial rfl ?_
           refine .nil ?_
           show Ev _ _ _ _ _
           refine .cond_true rfl rfl ?_
           refine .seq ?_
           refine .region ?_
           refine .q (op_buildS (r := .agg [.str [], .str [], .i64 12]) Tryd.underlying60 rfl zero60 rel_zero60 rfl rfl rfl rfl) trivial rfl ?_
           refine .as (.agg [.str ((allD s [] m0)).v, .str ((allD s [] m0)).r, .i64 ((((allD s [] m0)).e : Nat) : Int)]) (by rw [u.nover (show u.i < s.length by omega) (by first | exact hc23 | exact bne_eq_false_iff_eq.1 hc23) (con_all (by omega) hj0) h1 (by rw [ver_rR]; first | (rw [show okR (crB u.l) = false by simpa using hg100]; rfl) | (rw [show softOk (cutB 32 (rR (crB u.l))) = false by simpa using hc104]; simp))]; rfl) ?_
           refine .w (op_storeRow (by kernel_rfl) rfl rfl rfl rfl rfl (rfl) (rfl)) trivial rfl ?_
           refine .nil ?_
           show Ev _ _ _ _ _
           refine .ret ?_
           show RetOk _ _ _ _ _ _ _
           exact retc1 rfl (.inl rfl) ⟨_, _, _, _, rfl, rfl, rfl, rfl, rfl, Tryd.underlying60, rfl, (by kernel_rfl)⟩ trivial
          ·skip
           refine .q (op_move rfl) ⟨_, rfl, rfl⟩ rfl ?_
           refine .q (op_call (U := []) [] [] (rword_ev ((rR (crB u.l)).take k) (by simp; omega)) Tryd.func70 (by kernel_rfl) rfl rfl rfl (⟨⟨_, rfl, rfl, rfl⟩, trivial⟩) (trivial) (trivial) (trivial) rfl) ⟨_, rfl, rfl⟩ rfl ?_
           refine .as (.bool (softOk (cutB 32 (rR (crB u.l))))) (congrArg (fun z => AV.bool (softOk z)) (cut_at hk0 (by first | exact .inl (by omega) | exact .inr (bne_eq_false_iff_eq.1 hc88) | exact .inr (by simpa using hc88)) hk)) ?_
           refine .q (op_notB rfl) ⟨_, rfl, rfl⟩ rfl ?_
           refine .q (op_pick_false rfl rfl rfl) trivial rfl ?_
           refine .nil ?_
           show Ev _ _ _ _ _
           refine .cond rfl (fun hc104 => ?_) (fun hc104 => ?_)
           ·skip
            refine .seq ?_
            refine .region ?_
            refine .q (op_buildS (r := .agg [.str [], .str [], .i64 12]) Tryd.underlying60 rfl zero60 rel_zero60 rfl rfl rfl rfl) trivial rfl ?_
            refine .as (.agg [.str ((allD s [] m0)).v, .str ((allD s [] m0)).r, .i64 ((((allD s [] m0)).e : Nat) : Int)]) (by rw [u.nover (show u.i < s.length by omega) (by first | exact hc23 | exact bne_eq_false_iff_eq.1 hc23) (con_all (by omega) hj0) h1 (by rw [ver_rR]; first | (rw [show okR (crB u.l) = false by simpa using hg100]; rfl) | (rw [show softOk (cutB 32 (rR (crB u.l))) = false by simpa using hc104]; simp))]; rfl) ?_
            refine .w (op_storeRow (by kernel_rfl) rfl rfl rfl rfl rfl (rfl) (rfl)) trivial rfl ?_
            refine .nil ?_
            show Ev _ _ _ _ _
            refine .ret ?_
            show RetOk _ _ _ _ _ _ _
            exact retc1 rfl (.inl rfl) ⟨_, _, _, _, rfl, rfl, rfl, rfl, rfl, Tryd.underlying60, rfl, (by kernel_rfl)⟩ trivial
           ·skip
            refine .skip ?_
            show Ev _ _ _ _ _
            refine .seq ?_
            refine .region ?_
            refine .q (op_move rfl) trivial rfl ?_
            refine .q (op_move rfl) trivial rfl ?_
            refine .q (op_move rfl) trivial rfl ?_
            refine .q (op_addI rfl rfl ⟨by omega, by omega⟩) trivial rfl ?_
            refine .q (ap_slice_str_lo Tryd.underlying9 rfl (bnd_some rfl (l := u.i + 1) rfl) (by omega)) trivial rfl ?_
            refine .q (op_buildS (r := .agg [.str (crB u.l), .str (s.drop (u.i + 1)), .i64 0]) Tryd.underlying60 rfl zero60 rel_zero60 rfl rfl rfl rfl) trivial rfl ?_
            refine .as (.agg [.str ((allD s [] m0)).v, .str ((allD s [] m0)).r, .i64 ((((allD s [] m0)).e : Nat) : Int)]) (by rw [u.ver (show u.i < s.length by omega) (by first | exact hc23 | exact bne_eq_false_iff_eq.1 hc23) (con_all (by omega) hj0) h1 (by rw [ver_rR, show okR (crB u.l) = true by simpa using hg100, show softOk (cutB 32 (rR (crB u.l))) = true by simpa using hc104]; rfl)]; rfl) ?_
            refine .w (op_storeRow (by kernel_rfl) rfl rfl rfl rfl rfl (rfl) (rfl)) trivial rfl ?_
            refine .nil ?_
            show Ev _ _ _ _ _
            refine .ret ?_
            show RetOk _ _ _ _ _ _ _
            exact retc1 rfl (.inl rfl) ⟨_, _, _, _, rfl, rfl, rfl, rfl, rfl, Tryd.underlying60, rfl, (by kernel_rfl)⟩ trivial
        ·refine .q (op_call (U := []) [] [] (after_n (crB u.l) ssh1 (by omega) (Bool.eq_false_iff.2 h3)) Tryd.func69 (by kernel_rfl) rfl rfl rfl (⟨⟨_, rfl, rfl, rfl⟩, ⟨_, rfl, rfl, rfl⟩, trivial⟩) (trivial) (trivial) (trivial) rfl) trivial rfl ?_
         refine .q (op_move rfl) trivial rfl ?_
         refine .q (op_extract rfl rfl) trivial rfl ?_
         refine .q (op_extract rfl rfl) trivial rfl ?_
         refine .q (op_assign rfl) trivial rfl ?_
         refine .q (op_assign rfl) trivial rfl ?_
         refine .nil ?_
         show Ev _ _ _ _ _
         refine .seq ?_
         refine Ev.weak (st2 := ⟨[(0, .str s), (1, .i64 ((u.m : Nat) : Int)), (4, .ptr 1000 0), (5, .str (crB u.l)), (6, .i64 ((u.i : Nat) : Int)), (10, .str (rR (crB u.l))), (11, .bool (okR (crB u.l)))], [(1000, some ⟨.agg [.str [], .str [], .i64 0], 60, true⟩)], 1008⟩) (StLe.mk [(1000, 1000)] rfl rfl ⟨⟨_, rfl, by rfl, rfl⟩, ⟨_, rfl, by rfl, rfl⟩, ⟨_, rfl, by rfl, rfl⟩, ⟨_, rfl, by rfl, rfl⟩, ⟨_, rfl, by rfl, rfl⟩, ⟨_, rfl, by (show AV.str _ = AV.str _; congr 1; symm; first | rfl | (unfold rR; rw [if_pos h2]; rfl) | (unfold rR; rw [if_neg h2, if_pos h3]; rfl) | (unfold rR; rw [if_neg h2, if_neg h3])), rfl⟩, ⟨_, rfl, by (show AV.bool _ = AV.bool _; congr 1; symm; first | rfl | (unfold okR; rw [h2]; rfl) | (unfold okR; rw [Bool.eq_false_iff.2 h2, h3]; rfl) | (unfold okR; rw [Bool.eq_false_iff.2 h2, Bool.eq_false_iff.2 h3]; rfl)), rfl⟩, trivial⟩ ⟨⟨_, _, rfl, rfl, rfl, rfl, id, rfl⟩, trivial⟩) ?_
         refine .region ?_
         refine .q (op_assign rfl) trivial rfl ?_
         refine .nil ?_
         show Ev _ _ _ _ _
         refine .seq ?_
         refine .seq ?_
         refine .region ?_
         refine .q (op_assign rfl) trivial rfl ?_
         refine .nil ?_
         show Ev _ _ _ _ _
         refine .block ?_
         refine Ev.loop (ι := { k : Nat // k ≤ (rR (crB u.l)).length ∧ ((rR (crB u.l)).take k).contains 32 = false }) (fun q => ⟨[(0, .str s), (1, .i64 ((u.m : Nat) : Int)), (4, .ptr 1000 0), (5, .str (crB u.l)), (6, .i64 ((u.i : Nat) : Int)), (10, .str (rR (crB u.l))), (11, .bool (okR (crB u.l))), (12, .str ((rR (crB u.l)).take q.1)), (13, .i64 ((q.1 : Nat) : Int))], [(1000, some ⟨.agg [.str [], .str [], .i64 0], 60, true⟩)], 1008⟩) (fun q => (rR (crB u.l)).length - q.1) ⟨0, Nat.zero_le _, rfl⟩ (StLe.mk [(1000, 1000)] rfl rfl ⟨⟨_, rfl, by first | rfl | (simp only [AV.ren]; congr 1; omega), rfl⟩, ⟨_, rfl, by first | rfl | (simp only [AV.ren]; congr 1; omega), rfl⟩, ⟨_, rfl, by first | rfl | (simp only [AV.ren]; congr 1; omega), rfl⟩, ⟨_, rfl, by first | rfl | (simp only [AV.ren]; congr 1; omega), rfl⟩, ⟨_, rfl, by first | rfl | (simp only [AV.ren]; congr 1; omega), rfl⟩, ⟨_, rfl, by first | rfl | (simp only [AV.ren]; congr 1; omega), rfl⟩, ⟨_, rfl, by first | rfl | (simp only [AV.ren]; congr 1; omega), rfl⟩, ⟨_, rfl, by first | rfl | (simp only [AV.ren]; congr 1; omega), rfl⟩, ⟨_, rfl, by first | rfl | (simp only [AV.ren]; congr 1; omega), rfl⟩, trivial⟩ ⟨⟨_, _, rfl, rfl, rfl, rfl, id, rfl⟩, trivial⟩) ?_
         rintro ⟨k, hk, hk0⟩
         try dsimp only
         refine .seq ?_
         refine .seq ?_
         refine .region ?_
         refine .q (op_move rfl) trivial rfl ?_
         refine .q (op_move rfl) trivial rfl ?_
         refine .q (op_len_str Tryd.underlying9 rfl) trivial rfl ?_
         refine .q (op_cmpI rfl rfl rfl) trivial rfl ?_
         refine .q (op_move rfl) trivial rfl ?_
         refine .split (fun hg83 => ?_) (fun hg83 => ?_)
         ·first | replace hg83 := of_decide_eq_true hg83 | replace hg83 := of_decide_eq_false hg83 | replace hg83 := eq_of_beq hg83 | replace hg83 := ne_of_beq_false hg83 | simp only [bne_iff_ne, ne_eq] at hg83 | simp only [bne_eq_false_iff_eq] at hg83
          refine .q (op_move rfl) ⟨_, rfl, rfl⟩ rfl ?_
          refine .q (op_move rfl) ⟨_, rfl, rfl⟩ rfl ?_
          refine .q (op_index_str Tryd.underlying9 rfl rfl rfl (by omega)) ⟨_, rfl, rfl⟩ rfl ?_
          refine .q (op_bin8 rfl rfl rfl) ⟨_, rfl, rfl⟩ rfl ?_
          refine .q (op_pick_true rfl rfl rfl) trivial rfl ?_
          refine .nil ?_
          show Ev _ _ _ _ _
          refine .cond rfl (fun hc88 => ?_) (fun hc88 => ?_)
          ·first | replace hc88 := of_decide_eq_true hc88 | replace hc88 := of_decide_eq_false hc88 | replace hc88 := eq_of_beq hc88 | replace hc88 := ne_of_beq_false hc88 | simp only [bne_iff_ne, ne_eq] at hc88 | simp only [bne_eq_false_iff_eq] at hc88
           refine .skip ?_
           show Ev _ _ _ _ _
           refine .seq ?_
           refine .block ?_
           refine .region ?_
           refine .q (op_move rfl) trivial rfl ?_
           refine .q (op_move rfl) trivial rfl ?_
           refine .q (op_move rfl) trivial rfl ?_
           refine .q (op_move rfl) trivial rfl ?_
           refine .q (op_addI rfl rfl ⟨by omega, by omega⟩) trivial rfl ?_
           refine .q (op_slice_str Tryd.underlying9 rfl (bnd_some rfl (l := k) rfl) (bnd_some rfl (l := k + 1) rfl) (by omega) (by omega)) trivial rfl ?_
           refine .as (.str [(rR (crB u.l)).getD k 0]) (congrArg AV.str (slice_one (show k < (rR (crB u.l)).length by omega))) ?_
           refine .q (op_addS rfl rfl (by simp; omega)) trivial rfl ?_
           refine .q (op_assign rfl) trivial rfl ?_
           refine .nil ?_
           show Ev _ _ _ _ _
           refine .region ?_
           refine .q (op_move rfl) trivial rfl ?_
           refine .q (op_addI rfl rfl ⟨by omega, by omega⟩) trivial rfl ?_
           refine .q (op_assign rfl) trivial rfl ?_
           refine .nil ?_
           exact ⟨⟨k + 1, by omega, con_step (by omega) hk0 hc88⟩, by (try dsimp only); omega, StLe.mk [(1000, 1000)] rfl rfl ⟨⟨_, rfl, by rfl, rfl⟩, ⟨_, rfl, by rfl, rfl⟩, ⟨_, rfl, by rfl, rfl⟩, ⟨_, rfl, by rfl, rfl⟩, ⟨_, rfl, by rfl, rfl⟩, ⟨_, rfl, by rfl, rfl⟩, ⟨_, rfl, by rfl, rfl⟩, ⟨_, rfl, by (show AV.str _ = AV.str _; congr 1; exact (take_one (by omega)).symm), rfl⟩, ⟨_, rfl, by rfl, rfl⟩, trivial⟩ ⟨⟨_, _, rfl, rfl, rfl, rfl, id, rfl⟩, trivial⟩⟩
          ·first | replace hc88 := of_decide_eq_true hc88 | replace hc88 := of_decide_eq_false hc88 | replace hc88 := eq_of_beq hc88 | replace hc88 := ne_of_beq_false hc88 | simp only [bne_iff_ne, ne_eq] at hc88 | simp only [bne_eq_false_iff_eq] at hc88
           refine .exit ?_
           show Ev _ _ _ _ _
           refine .seq ?_
           refine .seq ?_
           refine .region ?_
           refine .q (op_move rfl) trivial rfl ?_
           refine .q (op_notB rfl) trivial rfl ?_
           refine .q (op_move rfl) trivial rfl ?_
           refine .split (fun hg100 => ?_) (fun hg100 => ?_)
           ·skip
            refine .no ⟨_, rfl, rfl⟩ rfl ?_
            refine .no ⟨_, rfl, rfl⟩ rfl ?_
            refine .no ⟨_, rfl, rfl⟩ rfl ?_
            refine .q (op_pick_true rfl rfl rfl) trivial rfl ?_
            refine .nil ?_
            show Ev _ _ _ _ _
            refine .cond_true rfl rfl ?_
            refine .seq ?_
            refine .region ?_
            refine .q (op_buildS (r := .agg [.str [], .str [], .i64 12]) Tryd.underlying60 rfl zero60 rel_zero60 rfl rfl rfl rfl) trivial rfl ?_
            refine .as (.agg [.str ((allD s [] m0)).v, .str ((allD s [] m0)).r, .i64 ((((allD s [] m0)).e : Nat) : Int)]) (by rw [u.nover (show u.i < s.length by omega) (by first | exact hc23 | exact bne_eq_false_iff_eq.1 hc23) (con_all (by omega) hj0) h1 (by rw [ver_rR]; first | (rw [show okR (crB u.l) = false by simpa using hg100]; rfl) | (rw [show softOk (cutB 32 (rR (crB u.l))) = false by simpa using hc104]; simp))]; rfl) ?_
            refine .w (op_storeRow (by kernel_rfl) rfl rfl rfl rfl rfl (rfl) (rfl)) trivial rfl ?_
            refine .nil ?_
            show Ev _ _ _ _ _
            refine .ret ?_
            show RetOk _ _ _ _ _ _ _
            exact retc1 rfl (.inl rfl) ⟨_, _, _, _, rfl, rfl, rfl, rfl, rfl, Tryd.underlying60, rfl, (by kernel_rfl)⟩ trivial
           ·skip
            refine .q (op_move rfl) ⟨_, rfl, rfl⟩ rfl ?_
            refine .q (op_call (U := []) [] [] (rword_ev ((rR (crB u.l)).take k) (by simp; omega)) Tryd.func70 (by kernel_rfl) rfl rfl rfl (⟨⟨_, rfl, rfl, rfl⟩, trivial⟩) (trivial) (trivial) (trivial) rfl) ⟨_, rfl, rfl⟩ rfl ?_
            refine .as (.bool (softOk (cutB 32 (rR (crB u.l))))) (congrArg (fun z => AV.bool (softOk z)) (cut_at hk0 (by first | exact .inl (by omega) | exact .inr (bne_eq_false_iff_eq.1 hc88) | exact .inr (by simpa using hc88)) hk)) ?_
            refine .q (op_notB rfl) ⟨_, rfl, rfl⟩ rfl ?_
            refine .q (op_pick_false rfl rfl rfl) trivial rfl ?_
            refine .nil ?_
            show Ev _ _ _ _ _
            refine .cond rfl (fun hc104 => ?_) (fun hc104 => ?_)
            ·skip
             refine .seq ?_
             refine .region ?_
             refine .q (op_buildS (r := .agg [.str [], .str [], .i64 12]) Tryd.underlying60 rfl zero60 rel_zero60 rfl rfl rfl rfl) trivial rfl ?_
             refine .as (.agg [.str ((allD s [] m0)).v, .str ((allD s [] m0)).r, .i64 ((((allD s [] m0)).e : Nat) : Int)]) (by rw [u.nover (show u.i < s.length by omega) (by first | exact hc23 | exact bne_eq_false_iff_eq.1 hc23) (con_all (by omega) hj0) h1 (by rw [ver_rR]; first | (rw [show okR (crB u.l) = false by simpa using hg100]; rfl) | (rw [show softOk (cutB 32 (rR (crB u.l))) = false by simpa using hc104]; simp))]; rfl) ?_
             refine .w (op_storeRow (by kernel_rfl) rfl rfl rfl rfl rfl (rfl) (rfl)) trivial rfl ?_
             refine .nil ?_
             show Ev _ _ _ _ _
             refine .ret ?_
             show RetOk _ _ _ _ _ _ _
             exact retc1 rfl (.inl rfl) ⟨_, _, _, _, rfl, rfl, rfl, rfl, rfl, Tryd.underlying60, rfl, (by kernel_rfl)⟩ trivial
            ·skip
             refine .skip ?_
             show Ev _ _ _ _ _
             refine .seq ?_
             refine .region ?_
             refine .q (op_move rfl) trivial rfl ?_
             refine .q (op_move rfl) trivial rfl ?_
             refine .q (op_move rfl) trivial rfl ?_
             refine .q (op_addI rfl rfl ⟨by omega, by omega⟩) trivial rfl ?_
             refine .q (ap_slice_str_lo Tryd.underlying9 rfl (bnd_some rfl (l := u.i + 1) rfl) (by omega)) trivial rfl ?_
             refine .q (op_buildS (r := .agg [.str (crB u.l), .str (s.drop (u.i + 1)), .i64 0]) Tryd.underlying60 rfl zero60 rel_zero60 rfl rfl rfl rfl) trivial rfl ?_
             refine .as (.agg [.str ((allD s [] m0)).v, .str ((allD s [] m0)).r, .i64 ((((allD s [] m0)).e : Nat) : Int)]) (by rw [u.ver (show u.i < s.length by omega) (by first | exact hc23 | exact bne_eq_false_iff_eq.1 hc23) (con_all (by omega) hj0) h1 (by rw [ver_rR, show okR (crB u.l) = true by simpa using hg100, show softOk (cutB 32 (rR (crB u.l))) = true by simpa using hc104]; rfl)]; rfl) ?_
             refine .w (op_storeRow (by kernel_rfl) rfl rfl rfl rfl rfl (rfl) (rfl)) trivial rfl ?_
             refine .nil ?_
             show Ev _ _ _ _ _
             refine .ret ?_
             show RetOk _ _ _ _ _ _ _
             exact retc1 rfl (.inl rfl) ⟨_, _, _, _, rfl, rfl, rfl, rfl, rfl, Tryd.underlying60, rfl, (by kernel_rfl)⟩ trivial
         ·first | replace hg83 := of_decide_eq_true hg83 | replace hg83 := of_decide_eq_false hg83 | replace hg83 := eq_of_beq hg83 | replace hg83 := ne_of_beq_false hg83 | simp only [bne_iff_ne, ne_eq] at hg83 | simp only [bne_eq_false_iff_eq] at hg83
          refine .no ⟨_, rfl, rfl⟩ rfl ?_
          refine .no ⟨_, rfl, rfl⟩ rfl ?_
          refine .no ⟨_, rfl, rfl⟩ rfl ?_
          refine .no ⟨_, rfl, rfl⟩ rfl ?_
          refine .q (op_pick_false rfl rfl rfl) trivial rfl ?_
          refine .nil ?_
          show Ev _ _ _ _ _
          refine .cond_false rfl rfl ?_
          refine .exit ?_
          show Ev _ _ _ _ _
          refine .seq ?_
          refine .seq ?_
          refine .region ?_
          refine .q (op_move rfl) trivial rfl ?_
          refine .q (op_notB rfl) trivial rfl ?_
          refine .q (op_move rfl) trivial rfl ?_
          refine .split (fun hg100 => ?_) (fun hg100 => ?_)
          ·skip
           refine .no ⟨_, rfl, rfl⟩ rfl ?_
           refine .no ⟨_, rfl, rfl⟩ rfl ?_
           refine .no ⟨_, rfl, rfl⟩ rfl ?_
           refine .q (op_pick_true rfl rfl rfl) trivial rfl ?_
           refine .nil ?_
           show Ev _ _ _ _ _
           refine .cond_true rfl rfl ?_
           refine .seq ?_
           refine .region ?_
           refine .q (op_buildS (r := .agg [.str [], .str [], .i64 12]) Tryd.underlying60 rfl zero60 rel_zero60 rfl rfl rfl rfl) trivial rfl ?_
           refine .as (.agg [.str ((allD s [] m0)).v, .str ((allD s [] m0)).r, .i64 ((((allD s [] m0)).e : Nat) : Int)]) (by rw [u.nover (show u.i < s.length by omega) (by first | exact hc23 | exact bne_eq_false_iff_eq.1 hc23) (con_all (by omega) hj0) h1 (by rw [ver_rR]; first | (rw [show okR (crB u.l) = false by simpa using hg100]; rfl) | (rw [show softOk (cutB 32 (rR (crB u.l))) = false by simpa using hc104]; simp))]; rfl) ?_
           refine .w (op_storeRow (by kernel_rfl) rfl rfl rfl rfl rfl (rfl) (rfl)) trivial rfl ?_
           refine .nil ?_
           show Ev _ _ _ _ _
           refine .ret ?_
           show RetOk _ _ _ _ _ _ _
           exact retc1 rfl (.inl rfl) ⟨_, _, _, _, rfl, rfl, rfl, rfl, rfl, Tryd.underlying60, rfl, (by kernel_rfl)⟩ trivial
          ·skip
           refine .q (op_move rfl) ⟨_, rfl, rfl⟩ rfl ?_
           refine .q (op_call (U := []) [] [] (rword_ev ((rR (crB u.l)).take k) (by simp; omega)) Tryd.func70 (by kernel_rfl) rfl rfl rfl (⟨⟨_, rfl, rfl, rfl⟩, trivial⟩) (trivial) (trivial) (trivial) rfl) ⟨_, rfl, rfl⟩ rfl ?_
           refine .as (.bool (softOk (cutB 32 (rR (crB u.l))))) (congrArg (fun z => AV.bool (softOk z)) (cut_at hk0 (by first | exact .inl (by omega) | exact .inr (bne_eq_false_iff_eq.1 hc88) | exact .inr (by simpa using hc88)) hk)) ?_
           refine .q (op_notB rfl) ⟨_, rfl, rfl⟩ rfl ?_
           refine .q (op_pick_false rfl rfl rfl) trivial rfl ?_
           refine .nil ?_
           show Ev _ _ _ _ _
           refine .cond rfl (fun hc104 => ?_) (fun hc104 => ?_)
           ·skip
            refine .seq ?_
            refine .region ?_
            refine .q (op_buildS (r := .agg [.str [], .str [], .i64 12]) Tryd.underlying60 rfl zero60 rel_zero60 rfl rfl rfl rfl) trivial rfl ?_
            refine .as (.agg [.str ((allD s [] m0)).v, .str ((allD s [] m0)).r, .i64 ((((allD s [] m0)).e : Nat) : Int)]) (by rw [u.nover (show u.i < s.length by omega) (by first | exact hc23 | exact bne_eq_false_iff_eq.1 hc23) (con_all (by omega) hj0) h1 (by rw [ver_rR]; first | (rw [show okR (crB u.l) = false by simpa using hg100]; rfl) | (rw [show softOk (cutB 32 (rR (crB u.l))) = false by simpa using hc104]; simp))]; rfl) ?_
            refine .w (op_storeRow (by kernel_rfl) rfl rfl rfl rfl rfl (rfl) (rfl)) trivial rfl ?_
            refine .nil ?_
            show Ev _ _ _ _ _
            refine .ret ?_
            show RetOk _ _ _ _ _ _ _
            exact retc1 rfl (.inl rfl) ⟨_, _, _, _, rfl, rfl, rfl, rfl, rfl, Tryd.underlying60, rfl, (by kernel_rfl)⟩ trivial
           ·skip
            refine .skip ?_
            show Ev _ _ _ _ _
            refine .seq ?_
            refine .region ?_
            refine .q (op_move rfl) trivial rfl ?_
            refine .q (op_move rfl) trivial rfl ?_
            refine .q (op_move rfl) trivial rfl ?_
            refine .q (op_addI rfl rfl ⟨by omega, by omega⟩) trivial rfl ?_
            refine .q (ap_slice_str_lo Tryd.underlying9 rfl (bnd_some rfl (l := u.i + 1) rfl) (by omega)) trivial rfl ?_
            refine .q (op_buildS (r := .agg [.str (crB u.l), .str (s.drop (u.i + 1)), .i64 0]) Tryd.underlying60 rfl zero60 rel_zero60 rfl rfl rfl rfl) trivial rfl ?_
            refine .as (.agg [.str ((allD s [] m0)).v, .str ((allD s [] m0)).r, .i64 ((((allD s [] m0)).e : Nat) : Int)]) (by rw [u.ver (show u.i < s.length by omega) (by first | exact hc23 | exact bne_eq_false_iff_eq.1 hc23) (con_all (by omega) hj0) h1 (by rw [ver_rR, show okR (crB u.l) = true by simpa using hg100, show softOk (cutB 32 (rR (crB u.l))) = true by simpa using hc104]; rfl)]; rfl) ?_
            refine .w (op_storeRow (by kernel_rfl) rfl rfl rfl rfl rfl (rfl) (rfl)) trivial rfl ?_
            refine .nil ?_
            show Ev _ _ _ _ _
            refine .ret ?_
            show RetOk _ _ _ _ _ _ _
            exact retc1 rfl (.inl rfl) ⟨_, _, _, _, rfl, rfl, rfl, rfl, rfl, Tryd.underlying60, rfl, (by kernel_rfl)⟩ trivial
      ·refine .q (op_call (U := []) [] [] (after_n (crB u.l) sshP (by omega) (Bool.eq_false_iff.2 h1)) Tryd.func69 (by kernel_rfl) rfl rfl rfl (⟨⟨_, rfl, rfl, rfl⟩, ⟨_, rfl, rfl, rfl⟩, trivial⟩) (trivial) (trivial) (trivial) rfl) trivial rfl ?_
       refine .q (op_move rfl) trivial rfl ?_
       refine .q (op_extract rfl rfl) trivial rfl ?_
       refine .q (op_extract rfl rfl) trivial rfl ?_
       refine .q (op_assign rfl) trivial rfl ?_
       refine .q (op_assign rfl) trivial rfl ?_
       refine .nil ?_
       show Ev _ _ _ _ _
       refine .seq ?_
       refine .region ?_
       refine .q (op_move rfl) trivial rfl ?_
       refine .nil ?_
       show Ev _ _ _ _ _
       refine .cond_false rfl (rfl) ?_
       refine .skip ?_
       show Ev _ _ _ _ _
       refine .seq ?_
       refine .seq ?_
       refine .region ?_
       refine .q (op_move rfl) trivial rfl ?_
       refine .q (op_cmpI rfl rfl rfl) trivial rfl ?_
       refine .nil ?_
       show Ev _ _ _ _ _
       refine .cond rfl (fun hc113 => ?_) (fun hc113 => ?_)
       ·first | replace hc113 := of_decide_eq_true hc113 | replace hc113 := of_decide_eq_false hc113 | replace hc113 := eq_of_beq hc113 | replace hc113 := ne_of_beq_false hc113 | simp only [bne_iff_ne, ne_eq] at hc113 | simp only [bne_eq_false_iff_eq] at hc113
        refine .seq ?_
        refine .region ?_
        refine .q (op_buildS (r := .agg [.str [], .str [], .i64 12]) Tryd.underlying60 rfl zero60 rel_zero60 rfl rfl rfl rfl) trivial rfl ?_
        refine .as (.agg [.str ((allD s [] m0)).v, .str ((allD s [] m0)).r, .i64 ((((allD s [] m0)).e : Nat) : Int)]) (by rw [u.none (show u.i < s.length by omega) (by first | exact hc23 | exact bne_eq_false_iff_eq.1 hc23) (con_all (by omega) hj0) (Bool.eq_false_iff.2 h1) (by omega)]; rfl) ?_
        refine .w (op_storeRow (by kernel_rfl) rfl rfl rfl rfl rfl (rfl) (rfl)) trivial rfl ?_
        refine .nil ?_
        show Ev _ _ _ _ _
        refine .ret ?_
        show RetOk _ _ _ _ _ _ _
        exact retc1 rfl (.inl rfl) ⟨_, _, _, _, rfl, rfl, rfl, rfl, rfl, Tryd.underlying60, rfl, (by kernel_rfl)⟩ trivial
       ·first | replace hc113 := of_decide_eq_true hc113 | replace hc113 := of_decide_eq_false hc113 | replace hc113 := eq_of_beq hc113 | replace hc113 := ne_of_beq_false hc113 | simp only [bne_iff_ne, ne_eq] at hc113 | simp only [bne_eq_false_iff_eq] at hc113
        refine .skip ?_
        show Ev _ _ _ _ _
        refine .seq ?_
        refine .region ?_
        refine .q (op_move rfl) trivial rfl ?_
        refine .q (op_subI rfl rfl ⟨by omega, by omega⟩) trivial rfl ?_
        refine .q (op_assign rfl) trivial rfl ?_
        refine .nil ?_
        show Ev _ _ _ _ _
        refine .region ?_
        refine .q (op_assign rfl) trivial rfl ?_
        refine .nil ?_
        show Ev _ _ _ _ _
        refine .region ?_
        refine .q (op_move rfl) trivial rfl ?_
        refine .q (op_addI rfl rfl ⟨by omega, by omega⟩) trivial rfl ?_
        refine .q (op_assign rfl) trivial rfl ?_
        refine .nil ?_
        exact ⟨u.next (show u.i < s.length by omega) (by first | exact hc23 | exact bne_eq_false_iff_eq.1 hc23) (con_all (by omega) hj0) (Bool.eq_false_iff.2 h1) (by omega), show s.length - (u.i + 1) < s.length - u.i by omega, StLe.mk [(1000, 1000)] rfl rfl ⟨⟨_, rfl, by rfl, rfl⟩, ⟨_, rfl, by (simp only [AV.ren, RI11.next]; congr 1; omega), rfl⟩, ⟨_, rfl, by rfl, rfl⟩, ⟨_, rfl, by rfl, rfl⟩, ⟨_, rfl, by rfl, rfl⟩, trivial⟩ ⟨⟨_, _, rfl, rfl, rfl, rfl, id, rfl⟩, trivial⟩⟩
   ·first | replace hg37 := of_decide_eq_true hg37 | replace hg37 := of_decide_eq_false hg37 | replace hg37 := eq_of_beq hg37 | replace hg37 := ne_of_beq_false hg37 | simp only [bne_iff_ne, ne_eq] at hg37 | simp only [bne_eq_false_iff_eq] at hg37
    refine .no ⟨_, rfl, rfl⟩ rfl ?_
    refine .no ⟨_, rfl, rfl⟩ rfl ?_
    refine .no ⟨_, rfl, rfl⟩ rfl ?_
    refine .no ⟨_, rfl, rfl⟩ rfl ?_
    refine .no ⟨_, rfl, rfl⟩ rfl ?_
    refine .no ⟨_, rfl, rfl⟩ rfl ?_
    refine .q (op_pick_false rfl rfl rfl) trivial rfl ?_
    refine .nil ?_
    show Ev _ _ _ _ _
    refine .cond_false rfl rfl ?_
    refine .skip ?_
    show Ev _ _ _ _ _
    refine .seq ?_
    refine .seq ?_
    refine Ev.weak (st2 := ⟨[(0, .str s), (1, .i64 ((u.m : Nat) : Int)), (4, .ptr 1000 0), (5, .str (crB u.l)), (6, .i64 ((u.i : Nat) : Int))], [(1000, some ⟨.agg [.str [], .str [], .i64 0], 60, true⟩)], 1008⟩) (StLe.mk [(1000, 1000)] rfl rfl ⟨⟨_, rfl, by rfl, rfl⟩, ⟨_, rfl, by rfl, rfl⟩, ⟨_, rfl, by rfl, rfl⟩, ⟨_, rfl, by first | rfl | (show AV.str u.l = AV.str (crB u.l); rw [crB_last0 (by first | exact .inr hc44 | exact .inl (bne_eq_false_iff_eq.1 hg37) | exact .inl hg37)]), rfl⟩, ⟨_, rfl, by rfl, rfl⟩, trivial⟩ ⟨⟨_, _, rfl, rfl, rfl, rfl, id, rfl⟩, trivial⟩) ?_
    refine .region ?_
    refine .q (op_assign rfl) trivial rfl ?_
    refine .nil ?_
    show Ev _ _ _ _ _
    refine .block ?_
    refine Ev.loop (ι := { j : Nat // j ≤ (crB u.l).length ∧ ((crB u.l).take j).contains 0 = false }) (fun q => ⟨[(0, .str s), (1, .i64 ((u.m : Nat) : Int)), (4, .ptr 1000 0), (5, .str (crB u.l)), (6, .i64 ((u.i : Nat) : Int)), (7, .i64 ((q.1 : Nat) : Int))], [(1000, some ⟨.agg [.str [], .str [], .i64 0], 60, true⟩)], 1008⟩) (fun q => (crB u.l).length - q.1) ⟨0, Nat.zero_le _, rfl⟩ (StLe.mk [(1000, 1000)] rfl rfl ⟨⟨_, rfl, by first | rfl | (simp only [AV.ren]; congr 1; omega), rfl⟩, ⟨_, rfl, by first | rfl | (simp only [AV.ren]; congr 1; omega), rfl⟩, ⟨_, rfl, by first | rfl | (simp only [AV.ren]; congr 1; omega), rfl⟩, ⟨_, rfl, by first | rfl | (simp only [AV.ren]; congr 1; omega), rfl⟩, ⟨_, rfl, by first | rfl | (simp only [AV.ren]; congr 1; omega), rfl⟩, ⟨_, rfl, by first | rfl | (simp only [AV.ren]; congr 1; omega), rfl⟩, trivial⟩ ⟨⟨_, _, rfl, rfl, rfl, rfl, id, rfl⟩, trivial⟩) ?_
    rintro ⟨j, hj, hj0⟩
    try dsimp only
    refine .seq ?_
    refine .seq ?_
    refine .region ?_
    refine .q (op_move rfl) trivial rfl ?_
    refine .q (op_move rfl) trivial rfl ?_
    refine .q (op_len_str Tryd.underlying9 rfl) trivial rfl ?_
    refine .q (op_cmpI rfl rfl rfl) trivial rfl ?_
    refine .nil ?_
    show Ev _ _ _ _ _
    refine .cond rfl (fun hc53 => ?_) (fun hc53 => ?_)
    ·first | replace hc53 := of_decide_eq_true hc53 | replace hc53 := of_decide_eq_false hc53 | replace hc53 := eq_of_beq hc53 | replace hc53 := ne_of_beq_false hc53 | simp only [bne_iff_ne, ne_eq] at hc53 | simp only [bne_eq_false_iff_eq] at hc53
     refine .skip ?_
     show Ev _ _ _ _ _
     refine .seq ?_
     refine .block ?_
     refine .seq ?_
     refine .region ?_
     refine .q (op_move rfl) trivial rfl ?_
     refine .q (op_move rfl) trivial rfl ?_
     refine .q (op_index_str Tryd.underlying9 rfl rfl rfl (by omega)) trivial rfl ?_
     refine .q (op_bin8 rfl rfl rfl) trivial rfl ?_
     refine .nil ?_
     show Ev _ _ _ _ _
     refine .cond rfl (fun hc59 => ?_) (fun hc59 => ?_)
     ·first | replace hc59 := of_decide_eq_true hc59 | replace hc59 := of_decide_eq_false hc59 | replace hc59 := eq_of_beq hc59 | replace hc59 := ne_of_beq_false hc59 | simp only [bne_iff_ne, ne_eq] at hc59 | simp only [bne_eq_false_iff_eq] at hc59
      refine .seq ?_
      refine .region ?_
      refine .q (op_buildS (r := .agg [.str [], .str [], .i64 3]) Tryd.underlying60 rfl zero60 rel_zero60 rfl rfl rfl rfl) trivial rfl ?_
      refine .as (.agg [.str ((allD s [] m0)).v, .str ((allD s [] m0)).r, .i64 ((((allD s [] m0)).e : Nat) : Int)]) (by rw [u.zero (show u.i < s.length by omega) (by first | exact hc23 | exact bne_eq_false_iff_eq.1 hc23) (con_hit (j := j) (by omega) hc59)]; rfl) ?_
      refine .w (op_storeRow (by kernel_rfl) rfl rfl rfl rfl rfl (rfl) (rfl)) trivial rfl ?_
      refine .nil ?_
      show Ev _ _ _ _ _
      refine .ret ?_
      show RetOk _ _ _ _ _ _ _
      exact retc1 rfl (.inl rfl) ⟨_, _, _, _, rfl, rfl, rfl, rfl, rfl, Tryd.underlying60, rfl, (by kernel_rfl)⟩ trivial
     ·first | replace hc59 := of_decide_eq_true hc59 | replace hc59 := of_decide_eq_false hc59 | replace hc59 := eq_of_beq hc59 | replace hc59 := ne_of_beq_false hc59 | simp only [bne_iff_ne, ne_eq] at hc59 | simp only [bne_eq_false_iff_eq] at hc59
      refine .skip ?_
      show Ev _ _ _ _ _
      refine .region ?_
      refine .q (op_move rfl) trivial rfl ?_
      refine .q (op_addI rfl rfl ⟨by omega, by omega⟩) trivial rfl ?_
      refine .q (op_assign rfl) trivial rfl ?_
      refine .nil ?_
      exact ⟨⟨j + 1, by omega, con_step (by omega) hj0 hc59⟩, by (try dsimp only); omega, StLe.mk [(1000, 1000)] rfl rfl ⟨⟨_, rfl, by first | rfl | (simp only [AV.ren]; congr 1; omega), rfl⟩, ⟨_, rfl, by first | rfl | (simp only [AV.ren]; congr 1; omega), rfl⟩, ⟨_, rfl, by first | rfl | (simp only [AV.ren]; congr 1; omega), rfl⟩, ⟨_, rfl, by first | rfl | (simp only [AV.ren]; congr 1; omega), rfl⟩, ⟨_, rfl, by first | rfl | (simp only [AV.ren]; congr 1; omega), rfl⟩, ⟨_, rfl, by first | rfl | (simp only [AV.ren]; congr 1; omega), rfl⟩, trivial⟩ ⟨⟨_, _, rfl, rfl, rfl, rfl, id, rfl⟩, trivial⟩⟩
    ·first | replace hc53 := of_decide_eq_true hc53 | replace hc53 := of_decide_eq_false hc53 | replace hc53 := eq_of_beq hc53 | replace hc53 := ne_of_beq_false hc53 | simp only [bne_iff_ne, ne_eq] at hc53 | simp only [bne_eq_false_iff_eq] at hc53
     refine .exit ?_
     show Ev _ _ _ _ _
     refine .seq ?_
     refine .seq ?_
     refine .region ?_
     refine .q (op_move rfl) trivial rfl ?_
     refine dite (begB sshP (crB u.l) = true) (fun h1 => ?_) (fun h1 => ?_)
     ·refine .q (op_call (U := []) [] [] (after_y (crB u.l) sshP (by omega) h1) Tryd.func69 (by kernel_rfl) rfl rfl rfl (⟨⟨_, rfl, rfl, rfl⟩, ⟨_, rfl, rfl, rfl⟩, trivial⟩) (trivial) (trivial) (trivial) rfl) trivial rfl ?_
      refine .q (op_move rfl) trivial rfl ?_
      refine .q (op_extract rfl rfl) trivial rfl ?_
      refine .q (op_extract rfl rfl) trivial rfl ?_
      refine .q (op_assign rfl) trivial rfl ?_
      refine .q (op_assign rfl) trivial rfl ?_
      refine .nil ?_
      show Ev _ _ _ _ _
      refine .seq ?_
      refine .region ?_
      refine .q (op_move rfl) trivial rfl ?_
      refine .nil ?_
      show Ev _ _ _ _ _
      refine .cond_true rfl (rfl) ?_
      refine .seq ?_
      refine .region ?_
      refine .q (op_move rfl) trivial rfl ?_
      refine dite (begB ssh2 (crB u.l) = true) (fun h2 => ?_) (fun h2 => ?_)
      ·refine .q (op_call (U := []) [] [] (after_y (crB u.l) ssh2 (by omega) h2) Tryd.func69 (by kernel_rfl) rfl rfl rfl (⟨⟨_, rfl, rfl, rfl⟩, ⟨_, rfl, rfl, rfl⟩, trivial⟩) (trivial) (trivial) (trivial) rfl) trivial rfl ?_
       refine .q (op_move rfl) trivial rfl ?_
       refine .q (op_extract rfl rfl) trivial rfl ?_
       refine .q (op_extract rfl rfl) trivial rfl ?_
       refine .q (op_assign rfl) trivial rfl ?_
       refine .q (op_assign rfl) trivial rfl ?_
       refine .nil ?_
       show Ev _ _ _ _ _
       refine .seq ?_
       refine .seq ?_
       refine .region ?_
       refine .q (op_move rfl) trivial rfl ?_
       refine .q (op_notB rfl) trivial rfl ?_
       refine .nil ?_
       show Ev _ _ _ _ _
       refine .cond_false rfl (rfl) ?_
       refine .skip ?_
       show Ev _ _ _ _ _
       refine .seq ?_
       refine Ev.weak (st2 := ⟨[(0, .str s), (1, .i64 ((u.m : Nat) : Int)), (4, .ptr 1000 0), (5, .str (crB u.l)), (6, .i64 ((u.i : Nat) : Int)), (10, .str (rR (crB u.l))), (11, .bool (okR (crB u.l)))], [(1000, some ⟨.agg [.str [], .str [], .i64 0], 60, true⟩)], 1008⟩) (StLe.mk [(1000, 1000)] rfl rfl ⟨⟨_, rfl, by rfl, rfl⟩, ⟨_, rfl, by rfl, rfl⟩, ⟨_, rfl, by rfl, rfl⟩, ⟨_, rfl, by rfl, rfl⟩, ⟨_, rfl, by rfl, rfl⟩, ⟨_, rfl, by (show AV.str _ = AV.str _; congr 1; symm; first | rfl | (unfold rR; rw [if_pos h2]; rfl) | (unfold rR; rw [if_neg h2, if_pos h3]; rfl) | (unfold rR; rw [if_neg h2, if_neg h3])), rfl⟩, ⟨_, rfl, by (show AV.bool _ = AV.bool _; congr 1; symm; first | rfl | (unfold okR; rw [h2]; rfl) | (unfold okR; rw [Bool.eq_false_iff.2 h2, h3]; rfl) | (unfold okR; rw [Bool.eq_false_iff.2 h2, Bool.eq_false_iff.2 h3]; rfl)), rfl⟩, trivial⟩ ⟨⟨_, _, rfl, rfl, rfl, rfl, id, rfl⟩, trivial⟩) ?_
       refine .region ?_
       refine .q (op_assign rfl) trivial rfl ?_
       refine .nil ?_
       show Ev _ _ _ _ _
       refine .seq ?_
       refine .seq ?_
       refine .region ?_
       refine .q (op_assign rfl) trivial rfl ?_
       refine .nil ?_
       show Ev _ _ _ _ _
       refine .block ?_
       refine Ev.loop (ι := { k : Nat // k ≤ (rR (crB u.l)).length ∧ ((rR (crB u.l)).take k).contains 32 = false }) (fun q => ⟨[(0, .str s), (1, .i64 ((u.m : Nat) : Int)), (4, .ptr 1000 0), (5, .str (crB u.l)), (6, .i64 ((u.i : Nat) : Int)), (10, .str (rR (crB u.l))), (11, .bool (okR (crB u.l))), (12, .str ((rR (crB u.l)).take q.1)), (13, .i64 ((q.1 : Nat) : Int))], [(1000, some ⟨.agg [.str [], .str [], .i64 0], 60, true⟩)], 1008⟩) (fun q => (rR (crB u.l)).length - q.1) ⟨0, Nat.zero_le _, rfl⟩ (StLe.mk [(1000, 1000)] rfl rfl ⟨⟨_, rfl, by first | rfl | (simp only [AV.ren]; congr 1; omega), rfl⟩, ⟨_, rfl, by first | rfl | (simp only [AV.ren]; congr 1; omega), rfl⟩, ⟨_, rfl, by first | rfl | (simp only [AV.ren]; congr 1; omega), rfl⟩, ⟨_, rfl, by first | rfl | (simp only [AV.ren]; congr 1; omega), rfl⟩, ⟨_, rfl, by first | rfl | (simp only [AV.ren]; congr 1; omega), rfl⟩, ⟨_, rfl, by first | rfl | (simp only [AV.ren]; congr 1; omega), rfl⟩, ⟨_, rfl, by first | rfl | (simp only [AV.ren]; congr 1; omega), rfl⟩, ⟨_, rfl, by first | rfl | (simp only [AV.ren]; congr 1; omega), rfl⟩, ⟨_, rfl, by first | rfl | (simp only [AV.ren]; congr 1; omega), rfl⟩, trivial⟩ ⟨⟨_, _, rfl, rfl, rfl, rfl, id, rfl⟩, trivial⟩) ?_
       rintro ⟨k, hk, hk0⟩
       try dsimp only
       refine .seq ?_
       refine .seq ?_
       refine .region ?_
       refine .q (op_move rfl) trivial rfl ?_
       refine .q (op_move rfl) trivial rfl ?_
       refine .q (op_len_str Tryd.underlying9 rfl) trivial rfl ?_
       refine .q (op_cmpI rfl rfl rfl) trivial rfl ?_
       refine .q (op_move rfl) trivial rfl ?_
       refine .split (fun hg83 => ?_) (fun hg83 => ?_)
       ·first | replace hg83 := of_decide_eq_true hg83 | replace hg83 := of_decide_eq_false hg83 | replace hg83 := eq_of_beq hg83 | replace hg83 := ne_of_beq_false hg83 | simp only [bne_iff_ne, ne_eq] at hg83 | simp only [bne_eq_false_iff_eq] at hg83
        refine .q (op_move rfl) ⟨_, rfl, rfl⟩ rfl ?_
        refine .q (op_move rfl) ⟨_, rfl, rfl⟩ rfl ?_
        refine .q (op_index_str Tryd.underlying9 rfl rfl rfl (by omega)) ⟨_, rfl, rfl⟩ rfl ?_
        refine .q (op_bin8 rfl rfl rfl) ⟨_, rfl, rfl⟩ rfl ?_
        refine .q (op_pick_true rfl rfl rfl) trivial rfl ?_
        refine .nil ?_
        show Ev _ _ _ _ _
        refine .cond rfl (fun hc88 => ?_) (fun hc88 => ?_)
        ·first | replace hc88 := of_decide_eq_true hc88 | replace hc88 := of_decide_eq_false hc88 | replace hc88 := eq_of_beq hc88 | replace hc88 := ne_of_beq_false hc88 | simp only [bne_iff_ne, ne_eq] at hc88 | simp only [bne_eq_false_iff_eq] at hc88
         refine .skip ?_
         show Ev _ _ _ _ _
         refine .seq ?_
         refine .block ?_
         refine .region ?_
         refine .q (op_move rfl) trivial rfl ?_
         refine .q (op_move rfl) trivial rfl ?_
         refine .q (op_move rfl) trivial rfl ?_
         refine .q (op_move rfl) trivial rfl ?_
         refine .q (op_addI rfl rfl ⟨by omega, by omega⟩) trivial rfl ?_
         refine .q (op_slice_str Tryd.underlying9 rfl (bnd_some rfl (l := k) rfl) (bnd_some rfl (l := k + 1) rfl) (by omega) (by omega)) trivial rfl ?_
         refine .as (.str [(rR (crB u.l)).getD k 0]) (congrArg AV.str (slice_one (show k < (rR (crB u.l)).length by omega))) ?_
         refine .q (op_addS rfl rfl (by simp; omega)) trivial rfl ?_
         refine .q (op_assign rfl) trivial rfl ?_
         refine .nil ?_
         show Ev _ _ _ _ _
         refine .region ?_
         refine .q (op_move rfl) trivial rfl ?_
         refine .q (op_addI rfl rfl ⟨by omega, by omega⟩) trivial rfl ?_
         refine .q (op_assign rfl) trivial rfl ?_
         refine .nil ?_
         exact ⟨⟨k + 1, by omega, con_step (by omega) hk0 hc88⟩, by (try dsimp only); omega, StLe.mk [(1000, 1000)] rfl rfl ⟨⟨_, rfl, by rfl, rfl⟩, ⟨_, rfl, by rfl, rfl⟩, ⟨_, rfl, by rfl, rfl⟩, ⟨_, rfl, by rfl, rfl⟩, ⟨_, rfl, by rfl, rfl⟩, ⟨_, rfl, by rfl, rfl⟩, ⟨_, rfl, by rfl, rfl⟩, ⟨_, rfl, by (show AV.str _ = AV.str _; congr 1; exact (take_one (by omega)).symm), rfl⟩, ⟨_, rfl, by rfl, rfl⟩, trivial⟩ ⟨⟨_, _, rfl, rfl, rfl, rfl, id, rfl⟩, trivial⟩⟩
        ·first | replace hc88 := of_decide_eq_true hc88 | replace hc88 := of_decide_eq_false hc88 | replace hc88 := eq_of_beq hc88 | replace hc88 := ne_of_beq_false hc88 | simp only [bne_iff_ne, ne_eq] at hc88 | simp only [bne_eq_false_iff_eq] at hc88
         refine .exit ?_
         show Ev _ _ _ _ _
         refine .seq ?_
         refine .seq ?_
         refine .region ?_
         refine .q (op_move rfl) trivial rfl ?_
         refine .q (op_notB rfl) trivial rfl ?_
         refine .q (op_move rfl) trivial rfl ?_
         refine .split (fun hg100 => ?_) (fun hg100 => ?_)
         ·skip
          refine .no ⟨_, rfl, rfl⟩ rfl ?_
          refine .no ⟨_, rfl, rfl⟩ rfl ?_
          refine .no ⟨_, rfl, rfl⟩ rfl ?_
          refine .q (op_pick_true rfl rfl rfl) trivial rfl ?_
          refine .nil ?_
          show Ev _ _ _ _ _
          refine .cond_true rfl rfl ?_
          refine .seq ?_
          refine .region ?_
          refine .q (op_buildS (r := .agg [.str [], .str [], .i64 12]) Tryd.underlying60 rfl zero60 rel_zero60 rfl rfl rfl rfl) trivial rfl ?_
          refine .as (.agg [.str ((allD s [] m0)).v, .str ((allD s [] m0)).r, .i64 ((((allD s [] m0)).e : Nat) : Int)]) (by rw [u.nover (show u.i < s.length by omega) (by first | exact hc23 | exact bne_eq_false_iff_eq.1 hc23) (con_all (by omega) hj0) h1 (by rw [ver_rR]; first | (rw [show okR (crB u.l) = false by simpa using hg100]; rfl) | (rw [show softOk (cutB 32 (rR (crB u.l))) = false by simpa using hc104]; simp))]; rfl) ?_
          refine .w (op_storeRow (by kernel_rfl) rfl rfl rfl rfl rfl (rfl) (rfl)) trivial rfl ?_
          refine .nil ?_
          show Ev _ _ _ _ _
          refine .ret ?_
          show RetOk _ _ _ _ _ _ _
          exact retc1 rfl (.inl rfl) ⟨_, _, _, _, rfl, rfl, rfl, rfl, rfl, Tryd.underlying60, rfl, (by kernel_rfl)⟩ trivial
         ·skip
          refine .q (op_move rfl) ⟨_, rfl, rfl⟩ rfl ?_
          refine .q (op_call (U := []) [] [] (rword_ev ((rR (crB u.l)).take k) (by simp; omega)) Tryd.func70 (by kernel_rfl) rfl rfl rfl (⟨⟨_, rfl, rfl, rfl⟩, trivial⟩) (trivial) (trivial) (trivial) rfl) ⟨_, rfl, rfl⟩ rfl ?_
          refine .as (.bool (softOk (cutB 32 (rR (crB u.l))))) (congrArg (fun z => AV.bool (softOk z)) (cut_at hk0 (by first | exact .inl (by omega) | exact .inr (bne_eq_false_iff_eq.1 hc88) | exact .inr (by simpa using hc88)) hk)) ?_
          refine .q (op_notB rfl) ⟨_, rfl, rfl⟩ rfl ?_
          refine .q (op_pick_false rfl rfl rfl) trivial rfl ?_
          refine .nil ?_
          show Ev _ _ _ _ _
          refine .cond rfl (fun hc104 => ?_) (fun hc104 => ?_)
          ·skip
           refine .seq ?_
           refine .region ?_
           refine .q (op_buildS (r := .agg [.str [], .str [], .i64 12]) Tryd.underlying60 rfl zero60 rel_zero60 rfl rfl rfl rfl) trivial rfl ?_
           refine .as (.agg [.str ((allD s [] m0)).v, .str ((allD s [] m0)).r, .i64 ((((allD s [] m0)).e : Nat) : Int)]) (by rw [u.nover (show u.i < s.length by omega) (by first | exact hc23 | exact bne_eq_false_iff_eq.1 hc23) (con_all (by omega) hj0) h1 (by rw [ver_rR]; first | (rw [show okR (crB u.l) = false by simpa using hg100]; rfl) | (rw [show softOk (cutB 32 (rR (crB u.l))) = false by simpa using hc104]; simp))]; rfl) ?_
           refine .w (op_storeRow (by kernel_rfl) rfl rfl rfl rfl rfl (rfl) (rfl)) trivial rfl ?_
           refine .nil ?_
           show Ev _ _ _ _ _
           refine .ret ?_
           show RetOk _ _ _ _ _ _ _
           exact retc1 rfl (.inl rfl) ⟨_, _, _, _, rfl, rfl, rfl, rfl, rfl, Tryd.underlying60, rfl, (by kernel_rfl)⟩ trivial
          ·skip
           refine .skip ?_
           show Ev _ _ _ _ _
           refine .seq ?_
           refine .region ?_
           refine .q (op_move rfl) trivial rfl ?_
           refine .q (op_move rfl) trivial rfl ?_
           refine .q (op_move rfl) trivial rfl ?_
           refine .q (op_addI rfl rfl ⟨by omega, by omega⟩) trivial rfl ?_
           refine .q (ap_slice_str_lo Tryd.underlying9 rfl (bnd_some rfl (l := u.i + 1) rfl) (by omega)) trivial rfl ?_
           refine .q (op_buildS (r := .agg [.str (crB u.l), .str (s.drop (u.i + 1)), .i64 0]) Tryd.underlying60 rfl zero60 rel_zero60 rfl rfl rfl rfl) trivial rfl ?_
           refine .as (.agg [.str ((allD s [] m0)).v, .str ((allD s [] m0)).r, .i64 ((((allD s [] m0)).e : Nat) : Int)]) (by rw [u.ver (show u.i < s.length by omega) (by first | exact hc23 | exact bne_eq_false_iff_eq.1 hc23) (con_all (by omega) hj0) h1 (by rw [ver_rR, show okR (crB u.l) = true by simpa using hg100, show softOk (cutB 32 (rR (crB u.l))) = true by simpa using hc104]; rfl)]; rfl) ?_
           refine .w (op_storeRow (by kernel_rfl) rfl rfl rfl rfl rfl (rfl) (rfl)) trivial rfl ?_
           refine .nil ?_
           show Ev _ _ _ _ _
           refine .ret ?_
           show RetOk _ _ _ _ _ _ _
           exact retc1 rfl (.inl rfl) ⟨_, _, _, _, rfl, rfl, rfl, rfl, rfl, Tryd.underlying60, rfl, (by kernel_rfl)⟩ trivial
       ·first | replace hg83 := of_decide_eq_true hg83 | replace hg83 := of_decide_eq_false hg83 | replace hg83 := eq_of_beq hg83 | replace hg83 := ne_of_beq_false hg83 | simp only [bne_iff_ne, ne_eq] at hg83 | simp only [bne_eq_false_iff_eq] at hg83
        refine .no ⟨_, rfl, rfl⟩ rfl ?_
        refine .no ⟨_, rfl, rfl⟩ rfl ?_
        refine .no ⟨_, rfl, rfl⟩ rfl ?_
        refine .no ⟨_, rfl, rfl⟩ rfl ?_
        refine .q (op_pick_false rfl rfl rfl) trivial rfl ?_
        refine .nil ?_
        show Ev _ _ _ _ _
        refine .cond_false rfl rfl ?_
        refine .exit ?_
        show Ev _ _ _ _ _
        refine .seq ?_
        refine .seq ?_
        refine .region ?_
        refine .q (op_move rfl) trivial rfl ?_
        refine .q (op_notB rfl) trivial rfl ?_
        refine .q (op_move rfl) trivial rfl ?_
        refine .split (fun hg100 => ?_) (fun hg100 => ?_)
        ·skip
         refine .no ⟨_, rfl, rfl⟩ rfl ?_
         refine .no ⟨_, rfl, rfl⟩ rfl ?_
         refine .no ⟨_, rfl, rfl⟩ rfl ?_
         refine .q (op_pick_true rfl rfl rfl) trivial rfl ?_
         refine .nil ?_
         show Ev _ _ _ _ _
         refine .cond_true rfl rfl ?_
         refine .seq ?_
         refine .region ?_
         refine .q (op_buildS (r := .agg [.str [], .str [], .i64 12]) Tryd.underlying60 rfl zero60 rel_zero60 rfl rfl rfl rfl) trivial rfl ?_
         refine .as (.agg [.str ((allD s [] m0)).v, .str ((allD s [] m0)).r, .i64 ((((allD s [] m0)).e : Nat) : Int)]) (by rw [u.nover (show u.i < s.length by omega) (by first | exact hc23 | exact bne_eq_false_iff_eq.1 hc23) (con_all (by omega) hj0) h1 (by rw [ver_rR]; first | (rw [show okR (crB u.l) = false by simpa using hg100]; rfl) | (rw [show softOk (cutB 32 (rR (crB u.l))) = false by simpa using hc104]; simp))]; rfl) ?_
         refine .w (op_storeRow (by kernel_rfl) rfl rfl rfl rfl rfl (rfl) (rfl)) trivial rfl ?_
         refine .nil ?_
         show Ev _ _ _ _ _
         refine .ret ?_
         show RetOk _ _ _ _ _ _ _
         exact retc1 rfl (.inl rfl) ⟨_, _, _, _, rfl, rfl, rfl, rfl, rfl, Tryd.underlying60, rfl, (by kernel_rfl)⟩ trivial
        ·skip
         refine .q (op_move rfl) ⟨_, rfl, rfl⟩ rfl ?_
         refine .q (op_call (U := []) [] [] (rword_ev ((rR (crB u.l)).take k) (by simp; omega)) Tryd.func70 (by kernel_rfl) rfl rfl rfl (⟨⟨_, rfl, rfl, rfl⟩, trivial⟩) (trivial) (trivial) (trivial) rfl) ⟨_, rfl, rfl⟩ rfl ?_
         refine .as (.bool (softOk (cutB 32 (rR (crB u.l))))) (congrArg (fun z => AV.bool (softOk z)) (cut_at hk0 (by first | exact .inl (by omega) | exact .inr (bne_eq_false_iff_eq.1 hc88) | exact .inr (by simpa using hc88)) hk)) ?_
         refine .q (op_notB rfl) ⟨_, rfl, rfl⟩ rfl ?_
         refine .q (op_pick_false rfl rfl rfl) trivial rfl ?_
         refine .nil ?_
         show Ev _ _ _ _ _
         refine .cond rfl (fun hc104 => ?_) (fun hc104 => ?_)
         ·skip
          refine .seq ?_
          refine .region ?_
          refine .q (op_buildS (r := .agg [.str [], .str [], .i64 12]) Tryd.underlying60 rfl zero60 rel_zero60 rfl rfl rfl rfl) trivial rfl ?_
          refine .as (.agg [.str ((allD s [] m0)).v, .str ((allD s [] m0)).r, .i64 ((((allD s [] m0)).e : Nat) : Int)]) (by rw [u.nover (show u.i < s.length by omega) (by first | exact hc23 | exact bne_eq_false_iff_eq.1 hc23) (con_all (by omega) hj0) h1 (by rw [ver_rR]; first | (rw [show okR (crB u.l) = false by simpa using hg100]; rfl) | (rw [show softOk (cutB 32 (rR (crB u.l))) = false by simpa using hc104]; simp))]; rfl) ?_
          refine .w (op_storeRow (by kernel_rfl) rfl rfl rfl rfl rfl (rfl) (rfl)) trivial rfl ?_
          refine .nil ?_
          show Ev _ _ _ _ _
          refine .ret ?_
          show RetOk _ _ _ _ _ _ _
          exact retc1 rfl (.inl rfl) ⟨_, _, _, _, rfl, rfl, rfl, rfl, rfl, Tryd.underlying60, rfl, (by kernel_rfl)⟩ trivial
         ·skip
          refine .skip ?_
          show Ev _ _ _ _ _
          refine .seq ?_
          refine .region ?_
          refine .q (op_move rfl) trivial rfl ?_
          refine .q (op_move rfl) trivial rfl ?_
          refine .q (op_move rfl) trivial rfl ?_
          refine .q (op_addI rfl rfl ⟨by omega, by omega⟩) trivial rfl ?_
          refine .q (ap_slice_str_lo Tryd.underlying9 rfl (bnd_some rfl (l := u.i + 1) rfl) (by omega)) trivial rfl ?_
          refine .q (op_buildS (r := .agg [.str (crB u.l), .str (s.drop (u.i + 1)), .i64 0]) Tryd.underlying60 rfl zero60 rel_zero60 rfl rfl rfl rfl) trivial rfl ?_
          refine .as (.agg [.str ((allD s [] m0)).v, .str ((allD s [] m0)).r, .i64 ((((allD s [] m0)).e : Nat) : Int)]) (by rw [u.ver (show u.i < s.length by omega) (by first | exact hc23 | exact bne_eq_false_iff_eq.1 hc23) (con_all (by omega) hj0) h1 (by rw [ver_rR, show okR (crB u.l) = true by simpa using hg100, show softOk (cutB 32 (rR (crB u.l))) = true by simpa using hc104]; rfl)]; rfl) ?_
          refine .w (op_storeRow (by kernel_rfl) rfl rfl rfl rfl rfl (rfl) (rfl)) trivial rfl ?_
          refine .nil ?_
          show Ev _ _ _ _ _
          refine .ret ?_
          show RetOk _ _ _ _ _ _ _
          exact retc1 rfl (.inl rfl) ⟨_, _, _, _, rfl, rfl, rfl, rfl, rfl, Tryd.underlying60, rfl, (by kernel_rfl)⟩ trivial
      ·refine .q (op_call (U := []) [] [] (after_n (crB u.l) ssh2 (by omega) (Bool.eq_false_iff.2 h2)) Tryd.func69 (by kernel_rfl) rfl rfl rfl (⟨⟨_, rfl, rfl, rfl⟩, ⟨_, rfl, rfl, rfl⟩, trivial⟩) (trivial) (trivial) (trivial) rfl) trivial rfl ?_
       refine .q (op_move rfl) trivial rfl ?_
       refine .q (op_extract rfl rfl) trivial rfl ?_
       refine .q (op_extract rfl rfl) trivial rfl ?_
       refine .q (op_assign rfl) trivial rfl ?_
       refine .q (op_assign rfl) trivial rfl ?_
       refine .nil ?_
       show Ev _ _ _ _ _
       refine .seq ?_
       refine .seq ?_
       refine .region ?_
       refine .q (op_move rfl) trivial rfl ?_
       refine .q (op_notB rfl) trivial rfl ?_
       refine .nil ?_
       show Ev _ _ _ _ _
       refine .cond_true rfl (rfl) ?_
       refine .region ?_
       refine .q (op_move rfl) trivial rfl ?_
       refine dite (begB ssh1 (crB u.l) = true) (fun h3 => ?_) (fun h3 => ?_)
       ·refine .q (op_call (U := []) [] [] (after_y (crB u.l) ssh1 (by omega) h3) Tryd.func69 (by kernel_rfl) rfl rfl rfl (⟨⟨_, rfl, rfl, rfl⟩, ⟨_, rfl, rfl, rfl⟩, trivial⟩) (trivial) (trivial) (trivial) rfl) trivial rfl ?_
        refine .q (op_move rfl) trivial rfl ?_
        refine .q (op_extract rfl rfl) trivial rfl ?_
        refine .q (op_extract rfl rfl) trivial rfl ?_
        refine .q (op_assign rfl) trivial rfl ?_
        refine .q (op_assign rfl) trivial rfl ?_
        refine .nil ?_
        show Ev _ _ _ _ _
        refine .seq ?_
        refine Ev.weak (st2 := ⟨[(0, .str s), (1, .i64 ((u.m : Nat) : Int)), (4, .ptr 1000 0), (5, .str (crB u.l)), (6, .i64 ((u.i : Nat) : Int)), (10, .str (rR (crB u.l))), (11, .bool (okR (crB u.l)))], [(1000, some ⟨.agg [.str [], .str [], .i64 0], 60, true⟩)], 1008⟩) (StLe.mk [(1000, 1000)] rfl rfl ⟨⟨_, rfl, by rfl, rfl⟩, ⟨_, rfl, by rfl, rfl⟩, ⟨_, rfl, by rfl, rfl⟩, ⟨_, rfl, by rfl, rfl⟩, ⟨_, rfl, by rfl, rfl⟩, ⟨_, rfl, by (show AV.str _ = AV.str _; congr 1; symm; first | rfl | (unfold rR; rw [if_pos h2]; rfl) | (unfold rR; rw [if_neg h2, if_pos h3]; rfl) | (unfold rR; rw [if_neg h2, if_neg h3])), rfl⟩, ⟨_, rfl, by (show AV.bool _ = AV.bool _; congr 1; symm; first | rfl | (unfold okR; rw [h2]; rfl) | (unfold okR; rw [Bool.eq_false_iff.2 h2, h3]; rfl) | (unfold okR; rw [Bool.eq_false_iff.2 h2, Bool.eq_false_iff.2 h3]; rfl)), rfl⟩, trivial⟩ ⟨⟨_, _, rfl, rfl, rfl, rfl, id, rfl⟩, trivial⟩) ?_
        refine .region ?_
        refine .q (op_assign rfl) trivial rfl ?_
        refine .nil ?_
        show Ev _ _ _ _ _
        refine .seq ?_
        refine .seq ?_
        refine .region ?_
        refine .q (op_assign rfl) trivial rfl ?_
        refine .nil ?_
        show Ev _ _ _ _ _
        refine .block ?_
        refine Ev.loop (ι := { k : Nat // k ≤ (rR (crB u.l)).length ∧ ((rR (crB u.l)).take k).contains 32 = false }) (fun q => ⟨[(0, .str s), (1, .i64 ((u.m : Nat) : Int)), (4, .ptr 1000 0), (5, .str (crB u.l)), (6, .i64 ((u.i : Nat) : Int)), (10, .str (rR (crB u.l))), (11, .bool (okR (crB u.l))), (12, .str ((rR (crB u.l)).take q.1)), (13, .i64 ((q.1 : Nat) : Int))], [(1000, some ⟨.agg [.str [], .str [], .i64 0], 60, true⟩)], 1008⟩) (fun q => (rR (crB u.l)).length - q.1) ⟨0, Nat.zero_le _, rfl⟩ (StLe.mk [(1000, 1000)] rfl rfl ⟨⟨_, rfl, by first | rfl | (simp only [AV.ren]; congr 1; omega), rfl⟩, ⟨_, rfl, by first | rfl | (simp only [AV.ren]; congr 1; omega), rfl⟩, ⟨_, rfl, by first | rfl | (simp only [AV.ren]; congr 1; omega), rfl⟩, ⟨_, rfl, by first | rfl | (simp only [AV.ren]; congr 1; omega), rfl⟩, ⟨_, rfl, by first | rfl | (simp only [AV.ren]; congr 1; omega), rfl⟩, ⟨_, rfl, by first | rfl | (simp only [AV.ren]; congr 1; omega), rfl⟩, ⟨_, rfl, by first | rfl | (simp only [AV.ren]; congr 1; omega), rfl⟩, ⟨_, rfl, by first | rfl | (simp only [AV.ren]; congr 1; omega), rfl⟩, ⟨_, rfl, by first | rfl | (simp only [AV.ren]; congr 1; omega), rfl⟩, trivial⟩ ⟨⟨_, _, rfl, rfl, rfl, rfl, id, rfl⟩, trivial⟩) ?_
        rintro ⟨k, hk, hk0⟩
        try dsimp only
        refine .seq ?_
        refine .seq ?_
        refine .region ?_
        refine .q (op_move rfl) trivial rfl ?_
        refine .q (op_move rfl) trivial rfl ?_
        refine .q (op_len_str Tryd.underlying9 rfl) trivial rfl ?_
        refine .q (op_cmpI rfl rfl rfl) trivial rfl ?_
        refine .q (op_move rfl) trivial rfl ?_
        refine .split (fun hg83 => ?_) (fun hg83 => ?_)
        ·first | replace hg83 := of_decide_eq_true hg83 | replace hg83 := of_decide_eq_false hg83 | replace hg83 := eq_of_beq hg83 | replace hg83 := ne_of_beq_false hg83 | simp only [bne_iff_ne, ne_eq] at hg83 | simp only [bne_eq_false_iff_eq] at hg83
         refine .q (op_move rfl) ⟨_, rfl, rfl⟩ rfl ?_
         refine .q (op_move rfl) ⟨_, rfl, rfl⟩ rfl ?_
         refine .q (op_index_str Tryd.underlying9 rfl rfl rfl (by omega)) ⟨_, rfl, rfl⟩ rfl ?_
         refine .q (op_bin8 rfl rfl rfl) ⟨_, rfl, rfl⟩ rfl ?_
         refine .q (op_pick_true rfl rfl rfl) trivial rfl ?_
         refine .nil ?_
         show Ev _ _ _ _ _
         refine .cond rfl (fun hc88 => ?_) (fun hc88 => ?_)
         ·first | replace hc88 := of_decide_eq_true hc88 | replace hc88 := of_decide_eq_false hc88 | replace hc88 := eq_of_beq hc88 | replace hc88 := ne_of_beq_false hc88 | simp only [bne_iff_ne, ne_eq] at hc88 | simp only [bne_eq_false_iff_eq] at hc88
          refine .skip ?_
          show Ev _ _ _ _ _
          refine .seq ?_
          refine .block ?_
          refine .region ?_
          refine .q (op_move rfl) trivial rfl ?_
          refine .q (op_move rfl) trivial rfl ?_
          refine .q (op_move rfl) trivial rfl ?_
          refine .q (op_move rfl) trivial rfl ?_
          refine .q (op_addI rfl rfl ⟨by omega, by omega⟩) trivial rfl ?_
          refine .q (op_slice_str Tryd.underlying9 rfl (bnd_some rfl (l := k) rfl) (bnd_some rfl (l := k + 1) rfl) (by omega) (by omega)) trivial rfl ?_
          refine .as (.str [(rR (crB u.l)).getD k 0]) (congrArg AV.str (slice_one (show k < (rR (crB u.l)).length by omega))) ?_
          refine .q (op_addS rfl rfl (by simp; omega)) trivial rfl ?_
          refine .q (op_assign rfl) trivial rfl ?_
          refine .nil ?_
          show Ev _ _ _ _ _
          refine .region ?_
          refine .q (op_move rfl) trivial rfl ?_
          refine .q (op_addI rfl rfl ⟨by omega, by omega⟩) trivial rfl ?_
          refine .q (op_assign rfl) trivial rfl ?_
          refine .nil ?_
          exact ⟨⟨k + 1, by omega, con_step (by omega) hk0 hc88⟩, by (try dsimp only); omega, StLe.mk [(1000, 1000)] rfl rfl ⟨⟨_, rfl, by rfl, rfl⟩, ⟨_, rfl, by rfl, rfl⟩, ⟨_, rfl, by rfl, rfl⟩, ⟨_, rfl, by rfl, rfl⟩, ⟨_, rfl, by rfl, rfl⟩, ⟨_, rfl, by rfl, rfl⟩, ⟨_, rfl, by rfl, rfl⟩, ⟨_, rfl, by (show AV.str _ = AV.str _; congr 1; exact (take_one (by omega)).symm), rfl⟩, ⟨_, rfl, by rfl, rfl⟩, trivial⟩ ⟨⟨_, _, rfl, rfl, rfl, rfl, id, rfl⟩, trivial⟩⟩
         ·first | replace hc88 := of_decide_eq_true hc88 | replace hc88 := of_decide_eq_false hc88 | replace hc88 := eq_of_beq hc88 | replace hc88 := ne_of_beq_false hc88 | simp only [bne_iff_ne, ne_eq] at hc88 | simp only [bne_eq_false_iff_eq] at hc88
          refine .exit ?_
          show Ev _ _ _ _ _
          refine .seq ?_
          refine .seq ?_
          refine .region ?_
          refine .q (op_move rfl) trivial rfl ?_
          refine .q (op_notB rfl) trivial rfl ?_
          refine .q (op_move rfl) trivial rfl ?_
          refine .split (fun hg100 => ?_) (fun hg100 => ?_)
          ·skip
           refine .no ⟨_, rfl, rfl⟩ rfl ?_
           refine .no ⟨_, rfl, rfl⟩ rfl ?_
           refine .no ⟨_, rfl, rfl⟩ rfl ?_
           refine .q (op_pick_true rfl rfl rfl) trivial rfl ?_
           refine .nil ?_
           show Ev _ _ _ _ _
           refine .cond_true rfl rfl ?_
           refine .seq ?_
           refine .region ?_
           refine .q (op_buildS (r := .agg [.str [], .str [], .i64 12]) Tryd.underlying60 rfl zero60 rel_zero60 rfl rfl rfl rfl) trivial rfl ?_
           refine .as (.agg [.str ((allD s [] m0)).v, .str ((allD s [] m0)).r, .i64 ((((allD s [] m0)).e : Nat) : Int)]) (by rw [u.nover (show u.i < s.length by omega) (by first | exact hc23 | exact bne_eq_false_iff_eq.1 hc23) (con_all (by omega) hj0) h1 (by rw [ver_rR]; first | (rw [show okR (crB u.l) = false by simpa using hg100]; rfl) | (rw [show softOk (cutB 32 (rR (crB u.l))) = false by simpa using hc104]; simp))]; rfl) ?_
           refine .w (op_storeRow (by kernel_rfl) rfl rfl rfl rfl rfl (rfl) (rfl)) trivial rfl ?_
           refine .nil ?_
           show Ev _ _ _ _ _
           refine .ret ?_
           show RetOk _ _ _ _ _ _ _
           exact retc1 rfl (.inl rfl) ⟨_, _, _, _, rfl, rfl, rfl, rfl, rfl, Tryd.underlying60, rfl, (by kernel_rfl)⟩ trivial
          ·skip
           refine .q (op_move rfl) ⟨_, rfl, rfl⟩ rfl ?_
           refine .q (op_call (U := []) [] [] (rword_ev ((rR (crB u.l)).take k) (by simp; omega)) Tryd.func70 (by kernel_rfl) rfl rfl rfl (⟨⟨_, rfl, rfl, rfl⟩, trivial⟩) (trivial) (trivial) (trivial) rfl) ⟨_, rfl, rfl⟩ rfl ?_
           refine .as (.bool (softOk (cutB 32 (rR (crB u.l))))) (congrArg (fun z => AV.bool (softOk z)) (cut_at hk0 (by first | exact .inl (by omega) | exact .inr (bne_eq_false_iff_eq.1 hc88) | exact .inr (by simpa using hc88)) hk)) ?_
           refine .q (op_notB rfl) ⟨_, rfl, rfl⟩ rfl ?_
           refine .q (op_pick_false rfl rfl rfl) trivial rfl ?_
           refine .nil ?_
           show Ev _ _ _ _ _
           refine .cond rfl (fun hc104 => ?_) (fun hc104 => ?_)
           ·skip
            refine .seq ?_
            refine .region ?_
            refine .q (op_buildS (r := .agg [.str [], .str [], .i64 12]) Tryd.underlying60 rfl zero60 rel_zero60 rfl rfl rfl rfl) trivial rfl ?_
            refine .as (.agg [.str ((allD s [] m0)).v, .str ((allD s [] m0)).r, .i64 ((((allD s [] m0)).e : Nat) : Int)]) (by rw [u.nover (show u.i < s.length by omega) (by first | exact hc23 | exact bne_eq_false_iff_eq.1 hc23) (con_all (by omega) hj0) h1 (by rw [ver_rR]; first | (rw [show okR (crB u.l) = false by simpa using hg100]; rfl) | (rw [show softOk (cutB 32 (rR (crB u.l))) = false by simpa using hc104]; simp))]; rfl) ?_
            refine .w (op_storeRow (by kernel_rfl) rfl rfl rfl rfl rfl (rfl) (rfl)) trivial rfl ?_
            refine .nil ?_
            show Ev _ _ _ _ _
            refine .ret ?_
            show RetOk _ _ _ _ _ _ _
            exact retc1 rfl (.inl rfl) ⟨_, _, _, _, rfl, rfl, rfl, rfl, rfl, Tryd.underlying60, rfl, (by kernel_rfl)⟩ trivial
           ·skip
            refine .skip ?_
            show Ev _ _ _ _ _
            refine .seq ?_
            refine .region ?_
            refine .q (op_move rfl) trivial rfl ?_
            refine .q (op_move rfl) trivial rfl ?_
            refine .q (op_move rfl) trivial rfl ?_
            refine .q (op_addI rfl rfl ⟨by omega, by omega⟩) trivial rfl ?_
            refine .q (ap_slice_str_lo Tryd.underlying9 rfl (bnd_some rfl (l := u.i + 1) rfl) (by omega)) trivial rfl ?_
            refine .q (op_buildS (r := .agg [.str (crB u.l), .str (s.drop (u.i + 1)), .i64 0]) Tryd.underlying60 rfl zero60 rel_zero60 rfl rfl rfl rfl) trivial rfl ?_
            refine .as (.agg [.str ((allD s [] m0)).v, .str ((allD s [] m0)).r, .i64 ((((allD s [] m0)).e : Nat) : Int)]) (by rw [u.ver (show u.i < s.length by omega) (by first | exact hc23 | exact bne_eq_false_iff_eq.1 hc23) (con_all (by omega) hj0) h1 (by rw [ver_rR, show okR (crB u.l) = true by simpa using hg100, show softOk (cutB 32 (rR (crB u.l))) = true by simpa using hc104]; rfl)]; rfl) ?_
            refine .w (op_storeRow (by kernel_rfl) rfl rfl rfl rfl rfl (rfl) (rfl)) trivial rfl ?_
            refine .nil ?_
            show Ev _ _ _ _ _
            refine .ret ?_
            show RetOk _ _ _ _ _ _ _
            exact retc1 rfl (.inl rfl) ⟨_, _, _, _, rfl, rfl, rfl, rfl, rfl, Tryd.underlying60, rfl, (by kernel_rfl)⟩ trivial
        ·first | replace hg83 := of_decide_eq_true hg83 | replace hg83 := of_decide_eq_false hg83 | replace hg83 := eq_of_beq hg83 | replace hg83 := ne_of_beq_false hg83 | simp only [bne_iff_ne, ne_eq] at hg83 | simp only [bne_eq_false_iff_eq] at hg83
         refine .no ⟨_, rfl, rfl⟩ rfl ?_
         refine .no ⟨_, rfl, rfl⟩ rfl ?_
         refine .no ⟨_, rfl, rfl⟩ rfl ?_
         refine .no ⟨_, rfl, rfl⟩ rfl ?_
         refine .q (op_pick_false rfl rfl rfl) trivial rfl ?_
         refine .nil ?_
         show Ev _ _ _ _ _
         refine .cond_false rfl rfl ?_
         refine .exit ?_
         show Ev _ _ _ _ _
         refine .seq ?_
         refine .seq ?_
         refine .region ?_
         refine .q (op_move rfl) trivial rfl ?_
         refine .q (op_notB rfl) trivial rfl ?_
         refine .q (op_move rfl) trivial rfl ?_
         refine .split (fun hg100 => ?_) (fun hg100 => ?_)
         ·skip
          refine .no ⟨_, rfl, rfl⟩ rfl ?_
          refine .no ⟨_, rfl, rfl⟩ rfl ?_
          refine .no ⟨_, rfl, rfl⟩ rfl ?_
          refine .q (op_pick_true rfl rfl rfl) trivial rfl ?_
          refine .nil ?_
          show Ev _ _ _ _ _
          refine .cond_true rfl rfl ?_
          refine .seq ?_
          refine .region ?_
          refine .q (op_buildS (r := .agg [.str [], .str [], .i64 12]) Tryd.underlying60 rfl zero60 rel_zero60 rfl rfl rfl rfl) trivial rfl ?_
          refine .as (.agg [.str ((allD s [] m0)).v, .str ((allD s [] m0)).r, .i64 ((((allD s [] m0)).e : Nat) : Int)]) (by rw [u.nover (show u.i < s.length by omega) (by first | exact hc23 | exact bne_eq_false_iff_eq.1 hc23) (con_all (by omega) hj0) h1 (by rw [ver_rR]; first | (rw [show okR (crB u.l) = false by simpa using hg100]; rfl) | (rw [show softOk (cutB 32 (rR (crB u.l))) = false by simpa using hc104]; simp))]; rfl) ?_
          refine .w (op_storeRow (by kernel_rfl) rfl rfl rfl rfl rfl (rfl) (rfl)) trivial rfl ?_
          refine .nil ?_
          show Ev _ _ _ _ _
          refine .ret ?_
          show RetOk _ _ _ _ _ _ _
          exact retc1 rfl (.inl rfl) ⟨_, _, _, _, rfl, rfl, rfl, rfl, rfl, Tryd.underlying60, rfl, (by kernel_rfl)⟩ trivial
         ·skip
          refine .q (op_move rfl) ⟨_, rfl, rfl⟩ rfl ?_
          refine .q (op_call (U := []) [] [] (rword_ev ((rR (crB u.l)).take k) (by simp; omega)) Tryd.func70 (by kernel_rfl) rfl rfl rfl (⟨⟨_, rfl, rfl, rfl⟩, trivial⟩) (trivial) (trivial) (trivial) rfl) ⟨_, rfl, rfl⟩ rfl ?_
          refine .as (.bool (softOk (cutB 32 (rR (crB u.l))))) (congrArg (fun z => AV.bool (softOk z)) (cut_at hk0 (by first | exact .inl (by omega) | exact .inr (bne_eq_false_iff_eq.1 hc88) | exact .inr (by simpa using hc88)) hk)) ?_
          refine .q (op_notB rfl) ⟨_, rfl, rfl⟩ rfl ?_
          refine .q (op_pick_false rfl rfl rfl) trivial rfl ?_
          refine .nil ?_
          show Ev _ _ _ _ _
          refine .cond rfl (fun hc104 => ?_) (fun hc104 => ?_)
          ·skip
           refine .seq ?_
           refine .region ?_
           refine .q (op_buildS (r := .agg [.str [], .str [], .i64 12]) Tryd.underlying60 rfl zero60 rel_zero60 rfl rfl rfl rfl) trivial rfl ?_
           refine .as (.agg [.str ((allD s [] m0)).v, .str ((allD s [] m0)).r, .i64 ((((allD s [] m0)).e : Nat) : Int)]) (by rw [u.nover (show u.i < s.length by omega) (by first | exact hc23 | exact bne_eq_false_iff_eq.1 hc23) (con_all (by omega) hj0) h1 (by rw [ver_rR]; first | (rw [show okR (crB u.l) = false by simpa using hg100]; rfl) | (rw [show softOk (cutB 32 (rR (crB u.l))) = false by simpa using hc104]; simp))]; rfl) ?_
           refine .w (op_storeRow (by kernel_rfl) rfl rfl rfl rfl rfl (rfl) (rfl)) trivial rfl ?_
           refine .nil ?_
           show Ev _ _ _ _ _
           refine .ret ?_
           show RetOk _ _ _ _ _ _ _
           exact retc1 rfl (.inl rfl) ⟨_, _, _, _, rfl, rfl, rfl, rfl, rfl, Tryd.underlying60, rfl, (by kernel_rfl)⟩ trivial
          ·skip
           refine .skip ?_
           show Ev _ _ _ _ _
           refine .seq ?_
           refine .region ?_
           refine .q (op_move rfl) trivial rfl ?_
           refine .q (op_move rfl) trivial rfl ?_
           refine .q (op_move rfl) trivial rfl ?_
           refine .q (op_addI rfl rfl ⟨by omega, by omega⟩) trivial rfl ?_
           refine .q (ap_slice_str_lo Tryd.underlying9 rfl (bnd_some rfl (l := u.i + 1) rfl) (by omega)) trivial rfl ?_
           refine .q (op_buildS (r := .agg [.str (crB u.l), .str (s.drop (u.i + 1)), .i64 0]) Tryd.underlying60 rfl zero60 rel_zero60 rfl rfl rfl rfl) trivial rfl ?_
           refine .as (.agg [.str ((allD s [] m0)).v, .str ((allD s [] m0)).r, .i64 ((((allD s [] m0)).e : Nat) : Int)]) (by rw [u.ver (show u.i < s.length by omega) (by first | exact hc23 | exact bne_eq_false_iff_eq.1 hc23) (con_all (by omega) hj0) h1 (by rw [ver_rR, show okR (crB u.l) = true by simpa using hg100, show softOk (cutB 32 (rR (crB u.l))) = true by simpa using hc104]; rfl)]; rfl) ?_
           refine .w (op_storeRow (by kernel_rfl) rfl rfl rfl rfl rfl (rfl) (rfl)) trivial rfl ?_
           refine .nil ?_
           show Ev _ _ _ _ _
           refine .ret ?_
           show RetOk _ _ _ _ _ _ _
           exact retc1 rfl (.inl rfl) ⟨_, _, _, _, rfl, rfl, rfl, rfl, rfl, Tryd.underlying60, rfl, (by kernel_rfl)⟩ trivial
       ·refine .q (op_call (U := []) [] [] (after_n (crB u.l) ssh1 (by omega) (Bool.eq_false_iff.2 h3)) Tryd.func69 (by kernel_rfl) rfl rfl rfl (⟨⟨_, rfl, rfl, rfl⟩, ⟨_, rfl, rfl, rfl⟩, trivial⟩) (trivial) (trivial) (trivial) rfl) trivial rfl ?_
        refine .q (op_move rfl) trivial rfl ?_
        refine .q (op_extract rfl rfl) trivial rfl ?_
        refine .q (op_extract rfl rfl) trivial rfl ?_
        refine .q (op_assign rfl) trivial rfl ?_
        refine .q (op_assign rfl) trivial rfl ?_
        refine .nil ?_
        show Ev _ _ _ _ _
        refine .seq ?_
        refine Ev.weak (st2 := ⟨[(0, .str s), (1, .i64 ((u.m : Nat) : Int)), (4, .ptr 1000 0), (5, .str (crB u.l)), (6, .i64 ((u.i : Nat) : Int)), (10, .str (rR (crB u.l))), (11, .bool (okR (crB u.l)))], [(1000, some ⟨.agg [.str [], .str [], .i64 0], 60, true⟩)], 1008⟩) (StLe.mk [(1000, 1000)] rfl rfl ⟨⟨_, rfl, by rfl, rfl⟩, ⟨_, rfl, by rfl, rfl⟩, ⟨_, rfl, by rfl, rfl⟩, ⟨_, rfl, by rfl, rfl⟩, ⟨_, rfl, by rfl, rfl⟩, ⟨_, rfl, by (show AV.str _ = AV.str _; congr 1; symm; first | rfl | (unfold rR; rw [if_pos h2]; rfl) | (unfold rR; rw [if_neg h2, if_pos h3]; rfl) | (unfold rR; rw [if_neg h2, if_neg h3])), rfl⟩, ⟨_, rfl, by (show AV.bool _ = AV.bool _; congr 1; symm; first | rfl | (unfold okR; rw [h2]; rfl) | (unfold okR; rw [Bool.eq_false_iff.2 h2, h3]; rfl) | (unfold okR; rw [Bool.eq_false_iff.2 h2, Bool.eq_false_iff.2 h3]; rfl)), rfl⟩, trivial⟩ ⟨⟨_, _, rfl, rfl, rfl, rfl, id, rfl⟩, trivial⟩) ?_
        refine .region ?_
        refine .q (op_assign rfl) trivial rfl ?_
        refine .nil ?_
        show Ev _ _ _ _ _
        refine .seq ?_
        refine .seq ?_
        refine .region ?_
        refine .q (op_assign rfl) trivial rfl ?_
        refine .nil ?_
        show Ev _ _ _ _ _
        refine .block ?_
        refine Ev.loop (ι := { k : Nat // k ≤ (rR (crB u.l)).length ∧ ((rR (crB u.l)).take k).contains 32 = false }) (fun q => ⟨[(0, .str s), (1, .i64 ((u.m : Nat) : Int)), (4, .ptr 1000 0), (5, .str (crB u.l)), (6, .i64 ((u.i : Nat) : Int)), (10, .str (rR (crB u.l))), (11, .bool (okR (crB u.l))), (12, .str ((rR (crB u.l)).take q.1)), (13, .i64 ((q.1 : Nat) : Int))], [(1000, some ⟨.agg [.str [], .str [], .i64 0], 60, true⟩)], 1008⟩) (fun q => (rR (crB u.l)).length - q.1) ⟨0, Nat.zero_le _, rfl⟩ (StLe.mk [(1000, 1000)] rfl rfl ⟨⟨_, rfl, by first | rfl | (simp only [AV.ren]; congr 1; omega), rfl⟩, ⟨_, rfl, by first | rfl | (simp only [AV.ren]; congr 1; omega), rfl⟩, ⟨_, rfl, by first | rfl | (simp only [AV.ren]; congr 1; omega), rfl⟩, ⟨_, rfl, by first | rfl | (simp only [AV.ren]; congr 1; omega), rfl⟩, ⟨_, rfl, by first | rfl | (simp only [AV.ren]; congr 1; omega), rfl⟩, ⟨_, rfl, by first | rfl | (simp only [AV.ren]; congr 1; omega), rfl⟩, ⟨_, rfl, by first | rfl | (simp only [AV.ren]; congr 1; omega), rfl⟩, ⟨_, rfl, by first | rfl | (simp only [AV.ren]; congr 1; omega), rfl⟩, ⟨_, rfl, by first | rfl | (simp only [AV.ren]; congr 1; omega), rfl⟩, trivial⟩ ⟨⟨_, _, rfl, rfl, rfl, rfl, id, rfl⟩, trivial⟩) ?_
        rintro ⟨k, hk, hk0⟩
        try dsimp only
        refine .seq ?_
        refine .seq ?_
        refine .region ?_
        refine .q (op_move rfl) trivial rfl ?_
        refine .q (op_move rfl) trivial rfl ?_
        refine .q (op_len_str Tryd.underlying9 rfl) trivial rfl ?_
        refine .q (op_cmpI rfl rfl rfl) trivial rfl ?_
        refine .q (op_move rfl) trivial rfl ?_
        refine .split (fun hg83 => ?_) (fun hg83 => ?_)
        ·first | replace hg83 := of_decide_eq_true hg83 | replace hg83 := of_decide_eq_false hg83 | replace hg83 := eq_of_beq hg83 | replace hg83 := ne_of_beq_false hg83 | simp only [bne_iff_ne, ne_eq] at hg83 | simp only [bne_eq_false_iff_eq] at hg83
         refine .q (op_move rfl) ⟨_, rfl, rfl⟩ rfl ?_
         refine .q (op_move rfl) ⟨_, rfl, rfl⟩ rfl ?_
         refine .q (op_index_str Tryd.underlying9 rfl rfl rfl (by omega)) ⟨_, rfl, rfl⟩ rfl ?_
         refine .q (op_bin8 rfl rfl rfl) ⟨_, rfl, rfl⟩ rfl ?_
         refine .q (op_pick_true rfl rfl rfl) trivial rfl ?_
         refine .nil ?_
         show Ev _ _ _ _ _
         refine .cond rfl (fun hc88 => ?_) (fun hc88 => ?_)
         ·first | replace hc88 := of_decide_eq_true hc88 | replace hc88 := of_decide_eq_false hc88 | replace hc88 := eq_of_beq hc88 | replace hc88 := ne_of_beq_false hc88 | simp only [bne_iff_ne, ne_eq] at hc88 | simp only [bne_eq_false_iff_eq] at hc88
          refine .skip ?_
          show Ev _ _ _ _ _
          refine .seq ?_
          refine .block ?_
          refine .region ?_
          refine .q (op_move rfl) trivial rfl ?_
          refine .q (op_move rfl) trivial rfl ?_
          refine .q (op_move rfl) trivial rfl ?_
          refine .q (op_move rfl) trivial rfl ?_
          refine .q (op_addI rfl rfl ⟨by omega, by omega⟩) trivial rfl ?_
          refine .q (op_slice_str Tryd.underlying9 rfl (bnd_some rfl (l := k) rfl) (bnd_some rfl (l := k + 1) rfl) (by omega) (by omega)) trivial rfl ?_
          refine .as (.str [(rR (crB u.l)).getD k 0]) (congrArg AV.str (slice_one (show k < (rR (crB u.l)).length by omega))) ?_
          refine .q (op_addS rfl rfl (by simp; omega)) trivial rfl ?_
          refine .q (op_assign rfl) trivial rfl ?_
          refine .nil ?_
          show Ev _ _ _ _ _
          refine .region ?_
          refine .q (op_move rfl) trivial rfl ?_
          refine .q (op_addI rfl rfl ⟨by omega, by omega⟩) trivial rfl ?_
          refine .q (op_assign rfl) trivial rfl ?_
          refine .nil ?_
          exact ⟨⟨k + 1, by omega, con_step (by omega) hk0 hc88⟩, by (try dsimp only); omega, StLe.mk [(1000, 1000)] rfl rfl ⟨⟨_, rfl, by rfl, rfl⟩, ⟨_, rfl, by rfl, rfl⟩, ⟨_, rfl, by rfl, rfl⟩, ⟨_, rfl, by rfl, rfl⟩, ⟨_, rfl, by rfl, rfl⟩, ⟨_, rfl, by rfl, rfl⟩, ⟨_, rfl, by rfl, rfl⟩, ⟨_, rfl, by (show AV.str _ = AV.str _; congr 1; exact (take_one (by omega)).symm), rfl⟩, ⟨_, rfl, by rfl, rfl⟩, trivial⟩ ⟨⟨_, _, rfl, rfl, rfl, rfl, id, rfl⟩, trivial⟩⟩
         ·first | replace hc88 := of_decide_eq_true hc88 | replace hc88 := of_decide_eq_false hc88 | replace hc88 := eq_of_beq hc88 | replace hc88 := ne_of_beq_false hc88 | simp only [bne_iff_ne, ne_eq] at hc88 | simp only [bne_eq_false_iff_eq] at hc88
          refine .exit ?_
          show Ev _ _ _ _ _
          refine .seq ?_
          refine .seq ?_
          refine .region ?_
          refine .q (op_move rfl) trivial rfl ?_
          refine .q (op_notB rfl) trivial rfl ?_
          refine .q (op_move rfl) trivial rfl ?_
          refine .split (fun hg100 => ?_) (fun hg100 => ?_)
          ·skip
           refine .no ⟨_, rfl, rfl⟩ rfl ?_
           refine .no ⟨_, rfl, rfl⟩ rfl ?_
           refine .no ⟨_, rfl, rfl⟩ rfl ?_
           refine .q (op_pick_true rfl rfl rfl) trivial rfl ?_
           refine .nil ?_
           show Ev _ _ _ _ _
           refine .cond_true rfl rfl ?_
           refine .seq ?_
           refine .region ?_
           refine .q (op_buildS (r := .agg [.str [], .str [], .i64 12]) Tryd.underlying60 rfl zero60 rel_zero60 rfl rfl rfl rfl) trivial rfl ?_
           refine .as (.agg [.str ((allD s [] m0)).v, .str ((allD s [] m0)).r, .i64 ((((allD s [] m0)).e : Nat) : Int)]) (by rw [u.nover (show u.i < s.length by omega) (by first | exact hc23 | exact bne_eq_false_iff_eq.1 hc23) (con_all (by omega) hj0) h1 (by rw [ver_rR]; first | (rw [show okR (crB u.l) = false by simpa using hg100]; rfl) | (rw [show softOk (cutB 32 (rR (crB u.l))) = false by simpa using hc104]; simp))]; rfl) ?_
           refine .w (op_storeRow (by kernel_rfl) rfl rfl rfl rfl rfl (rfl) (rfl)) trivial rfl ?_
           refine .nil ?_
           show Ev _ _ _ _ _
           refine .ret ?_
           show RetOk _ _ _ _ _ _ _
           exact retc1 rfl (.inl rfl) ⟨_, _, _, _, rfl, rfl, rfl, rfl, rfl, Tryd.underlying60, rfl, (by kernel_rfl)⟩ trivial
          ·skip
           refine .q (op_move rfl) ⟨_, rfl, rfl⟩ rfl ?_
           refine .q (op_call (U := []) [] [] (rword_ev ((rR (crB u.l)).take k) (by simp; omega)) Tryd.func70 (by kernel_rfl) rfl rfl rfl (⟨⟨_, rfl, rfl, rfl⟩, trivial⟩) (trivial) (trivial) (trivial) rfl) ⟨_, rfl, rfl⟩ rfl ?_
           refine .as (.bool (softOk (cutB 32 (rR (crB u.l))))) (congrArg (fun z => AV.bool (softOk z)) (cut_at hk0 (by first | exact .inl (by omega) | exact .inr (bne_eq_false_iff_eq.1 hc88) | exact .inr (by simpa using hc88)) hk)) ?_
           refine .q (op_notB rfl) ⟨_, rfl, rfl⟩ rfl ?_
           refine .q (op_pick_false rfl rfl rfl) trivial rfl ?_
           refine .nil ?_
           show Ev _ _ _ _ _
           refine .cond rfl (fun hc104 => ?_) (fun hc104 => ?_)
           ·skip
            refine .seq ?_
            refine .region ?_
            refine .q (op_buildS (r := .agg [.str [], .str [], .i64 12]) Tryd.underlying60 rfl zero60 rel_zero60 rfl rfl rfl rfl) trivial rfl ?_
            refine .as (.agg [.str ((allD s [] m0)).v, .str ((allD s [] m0)).r, .i64 ((((allD s [] m0)).e : Nat) : Int)]) (by rw [u.nover (show u.i < s.length by omega) (by first | exact hc23 | exact bne_eq_false_iff_eq.1 hc23) (con_all (by omega) hj0) h1 (by rw [ver_rR]; first | (rw [show okR (crB u.l) = false by simpa using hg100]; rfl) | (rw [show softOk (cutB 32 (rR (crB u.l))) = false by simpa using hc104]; simp))]; rfl) ?_
            refine .w (op_storeRow (by kernel_rfl) rfl rfl rfl rfl rfl (rfl) (rfl)) trivial rfl ?_
            refine .nil ?_
            show Ev _ _ _ _ _
            refine .ret ?_
            show RetOk _ _ _ _ _ _ _
            exact retc1 rfl (.inl rfl) ⟨_, _, _, _, rfl, rfl, rfl, rfl, rfl, Tryd.underlying60, rfl, (by kernel_rfl)⟩ trivial
           ·skip
            refine .skip ?_
            show Ev _ _ _ _ _
            refine .seq ?_
            refine .region ?_
            refine .q (op_move rfl) trivial rfl ?_
            refine .q (op_move rfl) trivial rfl ?_
            refine .q (op_move rfl) trivial rfl ?_
            refine .q (op_addI rfl rfl ⟨by omega, by omega⟩) trivial rfl ?_
            refine .q (ap_slice_str_lo Tryd.underlying9 rfl (bnd_some rfl (l := u.i + 1) rfl) (by omega)) trivial rfl ?_
            refine .q (op_buildS (r := .agg [.str (crB u.l), .str (s.drop (u.i + 1)), .i64 0]) Tryd.underlying60 rfl zero60 rel_zero60 rfl rfl rfl rfl) trivial rfl ?_
            refine .as (.agg [.str ((allD s [] m0)).v, .str ((allD s [] m0)).r, .i64 ((((allD s [] m0)).e : Nat) : Int)]) (by rw [u.ver (show u.i < s.length by omega) (by first | exact hc23 | exact bne_eq_false_iff_eq.1 hc23) (con_all (by omega) hj0) h1 (by rw [ver_rR, show okR (crB u.l) = true by simpa using hg100, show softOk (cutB 32 (rR (crB u.l))) = true by simpa using hc104]; rfl)]; rfl) ?_
            refine .w (op_storeRow (by kernel_rfl) rfl rfl rfl rfl rfl (rfl) (rfl)) trivial rfl ?_
            refine .nil ?_
            show Ev _ _ _ _ _
            refine .ret ?_
            show RetOk _ _ _ _ _ _ _
            exact retc1 rfl (.inl rfl) ⟨_, _, _, _, rfl, rfl, rfl, rfl, rfl, Tryd.underlying60, rfl, (by kernel_rfl)⟩ trivial
        ·first | replace hg83 := of_decide_eq_true hg83 | replace hg83 := of_decide_eq_false hg83 | replace hg83 := eq_of_beq hg83 | replace hg83 := ne_of_beq_false hg83 | simp only [bne_iff_ne, ne_eq] at hg83 | simp only [bne_eq_false_iff_eq] at hg83
         refine .no ⟨_, rfl, rfl⟩ rfl ?_
         refine .no ⟨_, rfl, rfl⟩ rfl ?_
         refine .no ⟨_, rfl, rfl⟩ rfl ?_
         refine .no ⟨_, rfl, rfl⟩ rfl ?_
         refine .q (op_pick_false rfl rfl rfl) trivial rfl ?_
         refine .nil ?_
         show Ev _ _ _ _ _
         refine .cond_false rfl rfl ?_
         refine .exit ?_
         show Ev _ _ _ _ _
         refine .seq ?_
         refine .seq ?_
         refine .region ?_
         refine .q (op_move rfl) trivial rfl ?_
         refine .q (op_notB rfl) trivial rfl ?_
         refine .q (op_move rfl) trivial rfl ?_
         refine .split (fun hg100 => ?_) (fun hg100 => ?_)
         ·skip
          refine .no ⟨_, rfl, rfl⟩ rfl ?_
          refine .no ⟨_, rfl, rfl⟩ rfl ?_
          refine .no ⟨_, rfl, rfl⟩ rfl ?_
          refine .q (op_pick_true rfl rfl rfl) trivial rfl ?_
          refine .nil ?_
          show Ev _ _ _ _ _
          refine .cond_true rfl rfl ?_
          refine .seq ?_
          refine .region ?_
          refine .q (op_buildS (r := .agg [.str [], .str [], .i64 12]) Tryd.underlying60 rfl zero60 rel_zero60 rfl rfl rfl rfl) trivial rfl ?_
          refine .as (.agg [.str ((allD s [] m0)).v, .str ((allD s [] m0)).r, .i64 ((((allD s [] m0)).e : Nat) : Int)]) (by rw [u.nover (show u.i < s.length by omega) (by first | exact hc23 | exact bne_eq_false_iff_eq.1 hc23) (con_all (by omega) hj0) h1 (by rw [ver_rR]; first | (rw [show okR (crB u.l) = false by simpa using hg100]; rfl) | (rw [show softOk (cutB 32 (rR (crB u.l))) = false by simpa using hc104]; simp))]; rfl) ?_
          refine .w (op_storeRow (by kernel_rfl) rfl rfl rfl rfl rfl (rfl) (rfl)) trivial rfl ?_
          refine .nil ?_
          show Ev _ _ _ _ _
          refine .ret ?_
          show RetOk _ _ _ _ _ _ _
          exact retc1 rfl (.inl rfl) ⟨_, _, _, _, rfl, rfl, rfl, rfl, rfl, Tryd.underlying60, rfl, (by kernel_rfl)⟩ trivial
         ·skip
          refine .q (op_move rfl) ⟨_, rfl, rfl⟩ rfl ?_
          refine .q (op_call (U := []) [] [] (rword_ev ((rR (crB u.l)).take k) (by simp; omega)) Tryd.func70 (by kernel_rfl) rfl rfl rfl (⟨⟨_, rfl, rfl, rfl⟩, trivial⟩) (trivial) (trivial) (trivial) rfl) ⟨_, rfl, rfl⟩ rfl ?_
          refine .as (.bool (softOk (cutB 32 (rR (crB u.l))))) (congrArg (fun z => AV.bool (softOk z)) (cut_at hk0 (by first | exact .inl (by omega) | exact .inr (bne_eq_false_iff_eq.1 hc88) | exact .inr (by simpa using hc88)) hk)) ?_
          refine .q (op_notB rfl) ⟨_, rfl, rfl⟩ rfl ?_
          refine .q (op_pick_false rfl rfl rfl) trivial rfl ?_
          refine .nil ?_
          show Ev _ _ _ _ _
          refine .cond rfl (fun hc104 => ?_) (fun hc104 => ?_)
          ·skip
           refine .seq ?_
           refine .region ?_
           refine .q (op_buildS (r := .agg [.str [], .str [], .i64 12]) Tryd.underlying60 rfl zero60 rel_zero60 rfl rfl rfl rfl) trivial rfl ?_
           refine .as (.agg [.str ((allD s [] m0)).v, .str ((allD s [] m0)).r, .i64 ((((allD s [] m0)).e : Nat) : Int)]) (by rw [u.nover (show u.i < s.length by omega) (by first | exact hc23 | exact bne_eq_false_iff_eq.1 hc23) (con_all (by omega) hj0) h1 (by rw [ver_rR]; first | (rw [show okR (crB u.l) = false by simpa using hg100]; rfl) | (rw [show softOk (cutB 32 (rR (crB u.l))) = false by simpa using hc104]; simp))]; rfl) ?_
           refine .w (op_storeRow (by kernel_rfl) rfl rfl rfl rfl rfl (rfl) (rfl)) trivial rfl ?_
           refine .nil ?_
           show Ev _ _ _ _ _
           refine .ret ?_
           show RetOk _ _ _ _ _ _ _
           exact retc1 rfl (.inl rfl) ⟨_, _, _, _, rfl, rfl, rfl, rfl, rfl, Tryd.underlying60, rfl, (by kernel_rfl)⟩ trivial
          ·skip
           refine .skip ?_
           show Ev _ _ _ _ _
           refine .seq ?_
           refine .region ?_
           refine .q (op_move rfl) trivial rfl ?_
           refine .q (op_move rfl) trivial rfl ?_
           refine .q (op_move rfl) trivial rfl ?_
           refine .q (op_addI rfl rfl ⟨by omega, by omega⟩) trivial rfl ?_
           refine .q (ap_slice_str_lo Tryd.underlying9 rfl (bnd_some rfl (l := u.i + 1) rfl) (by omega)) trivial rfl ?_
           refine .q (op_buildS (r := .agg [.str (crB u.l), .str (s.drop (u.i + 1)), .i64 0]) Tryd.underlying60 rfl zero60 rel_zero60 rfl rfl rfl rfl) trivial rfl ?_
           refine .as (.agg [.str ((allD s [] m0)).v, .str ((allD s [] m0)).r, .i64 ((((allD s [] m0)).e : Nat) : Int)]) (by rw [u.ver (show u.i < s.length by omega) (by first | exact hc23 | exact bne_eq_false_iff_eq.1 hc23) (con_all (by omega) hj0) h1 (by rw [ver_rR, show okR (crB u.l) = true by simpa using hg100, show softOk (cutB 32 (rR (crB u.l))) = true by simpa using hc104]; rfl)]; rfl) ?_
           refine .w (op_storeRow (by kernel_rfl) rfl rfl rfl rfl rfl (rfl) (rfl)) trivial rfl ?_
           refine .nil ?_
           show Ev _ _ _ _ _
           refine .ret ?_
           show RetOk _ _ _ _ _ _ _
           exact retc1 rfl (.inl rfl) ⟨_, _, _, _, rfl, rfl, rfl, rfl, rfl, Tryd.underlying60, rfl, (by kernel_rfl)⟩ trivial
     ·refine .q (op_call (U := []) [] [] (after_n (crB u.l) sshP (by omega) (Bool.eq_false_iff.2 h1)) Tryd.func69 (by kernel_rfl) rfl rfl rfl (⟨⟨_, rfl, rfl, rfl⟩, ⟨_, rfl, rfl, rfl⟩, trivial⟩) (trivial) (trivial) (trivial) rfl) trivial rfl ?_
      refine .q (op_move rfl) trivial rfl ?_
      refine .q (op_extract rfl rfl) trivial rfl ?_
      refine .q (op_extract rfl rfl) trivial rfl ?_
      refine .q (op_assign rfl) trivial rfl ?_
      refine .q (op_assign rfl) trivial rfl ?_
      refine .nil ?_
      show Ev _ _ _ _ _
      refine .seq ?_
      refine .region ?_
      refine .q (op_move rfl) trivial rfl ?_
      refine .nil ?_
      show Ev _ _ _ _ _
      refine .cond_false rfl (rfl) ?_
      refine .skip ?_
      show Ev _ _ _ _ _
      refine .seq ?_
      refine .seq ?_
      refine .region ?_
      refine .q (op_move rfl) trivial rfl ?_
      refine .q (op_cmpI rfl rfl rfl) trivial rfl ?_
      refine .nil ?_
      show Ev _ _ _ _ _
      refine .cond rfl (fun hc113 => ?_) (fun hc113 => ?_)
      ·first | replace hc113 := of_decide_eq_true hc113 | replace hc113 := of_decide_eq_false hc113 | replace hc113 := eq_of_beq hc113 | replace hc113 := ne_of_beq_false hc113 | simp only [bne_iff_ne, ne_eq] at hc113 | simp only [bne_eq_false_iff_eq] at hc113
       refine .seq ?_
       refine .region ?_
       refine .q (op_buildS (r := .agg [.str [], .str [], .i64 12]) Tryd.underlying60 rfl zero60 rel_zero60 rfl rfl rfl rfl) trivial rfl ?_
       refine .as (.agg [.str ((allD s [] m0)).v, .str ((allD s [] m0)).r, .i64 ((((allD s [] m0)).e : Nat) : Int)]) (by rw [u.none (show u.i < s.length by omega) (by first | exact hc23 | exact bne_eq_false_iff_eq.1 hc23) (con_all (by omega) hj0) (Bool.eq_false_iff.2 h1) (by omega)]; rfl) ?_
       refine .w (op_storeRow (by kernel_rfl) rfl rfl rfl rfl rfl (rfl) (rfl)) trivial rfl ?_
       refine .nil ?_
       show Ev _ _ _ _ _
       refine .ret ?_
       show RetOk _ _ _ _ _ _ _
       exact retc1 rfl (.inl rfl) ⟨_, _, _, _, rfl, rfl, rfl, rfl, rfl, Tryd.underlying60, rfl, (by kernel_rfl)⟩ trivial
      ·first | replace hc113 := of_decide_eq_true hc113 | replace hc113 := of_decide_eq_false hc113 | replace hc113 := eq_of_beq hc113 | replace hc113 := ne_of_beq_false hc113 | simp only [bne_iff_ne, ne_eq] at hc113 | simp only [bne_eq_false_iff_eq] at hc113
       refine .skip ?_
       show Ev _ _ _ _ _
       refine .seq ?_
       refine .region ?_
       refine .q (op_move rfl) trivial rfl ?_
       refine .q (op_subI rfl rfl ⟨by omega, by omega⟩) trivial rfl ?_
       refine .q (op_assign rfl) trivial rfl ?_
       refine .nil ?_
       show Ev _ _ _ _ _
       refine .region ?_
       refine .q (op_assign rfl) trivial rfl ?_
       refine .nil ?_
       show Ev _ _ _ _ _
       refine .region ?_
       refine .q (op_move rfl) trivial rfl ?_
       refine .q (op_addI rfl rfl ⟨by omega, by omega⟩) trivial rfl ?_
       refine .q (op_assign rfl) trivial rfl ?_
       refine .nil ?_
       exact ⟨u.next (show u.i < s.length by omega) (by first | exact hc23 | exact bne_eq_false_iff_eq.1 hc23) (con_all (by omega) hj0) (Bool.eq_false_iff.2 h1) (by omega), show s.length - (u.i + 1) < s.length - u.i by omega, StLe.mk [(1000, 1000)] rfl rfl ⟨⟨_, rfl, by rfl, rfl⟩, ⟨_, rfl, by (simp only [AV.ren, RI11.next]; congr 1; omega), rfl⟩, ⟨_, rfl, by rfl, rfl⟩, ⟨_, rfl, by rfl, rfl⟩, ⟨_, rfl, by rfl, rfl⟩, trivial⟩ ⟨⟨_, _, rfl, rfl, rfl, rfl, id, rfl⟩, trivial⟩⟩
 ·first | replace hc17 := of_decide_eq_true hc17 | replace hc17 := of_decide_eq_false hc17 | replace hc17 := eq_of_beq hc17 | replace hc17 := ne_of_beq_false hc17 | simp only [bne_iff_ne, ne_eq] at hc17 | simp only [bne_eq_false_iff_eq] at hc17
  refine .exit ?_
  show Ev _ _ _ _ _
  refine .seq ?_
  refine .region ?_
  refine .q (op_buildS (r := .agg [.str [], .str [], .i64 0]) Tryd.underlying60 rfl zero60 rel_zero60 rfl rfl rfl rfl) trivial rfl ?_
  refine .as (.agg [.str ((allD s [] m0)).v, .str ((allD s [] m0)).r, .i64 ((((allD s [] m0)).e : Nat) : Int)]) (by rw [u.fin (by omega)]; rfl) ?_
  refine .w (op_storeRow (by kernel_rfl) rfl rfl rfl rfl rfl (rfl) (rfl)) trivial rfl ?_
  refine .nil ?_
  show Ev _ _ _ _ _
  refine .ret ?_
  show RetOk _ _ _ _ _ _ _
  exact retc1 rfl (.inl rfl) ⟨_, _, _, _, rfl, rfl, rfl, rfl, rfl, Tryd.underlying60, rfl, (by kernel_rfl)⟩ trivial
set_option maxRecDepth 100000 in
theorem more_y  : Meets Tryd.prog 29 [.bool true] [] (.i64 16) [] := by
 refine meets_of_ev (nt := 4) Tryd.func29 rfl rfl (Nat.le_of_ble_eq_true rfl) ?_
 refine .seq ?_
 refine .region ?_
 refine .q (op_assign rfl) trivial rfl ?_
 refine .nil ?_
 show Ev _ _ _ _ _
 refine .seq ?_
 refine .seq ?_
 refine .region ?_
 refine .q (op_move rfl) trivial rfl ?_
 refine .nil ?_
 show Ev _ _ _ _ _
 refine .cond_true rfl (rfl) ?_
 refine .seq ?_
 refine .region ?_
 refine .q (op_assign rfl) trivial rfl ?_
 refine .nil ?_
 show Ev _ _ _ _ _
 refine .ret ?_
 show RetOk _ _ _ _ _ _ _
 exact ret1v rfl (.inl rfl) rfl rfl trivial
set_option maxRecDepth 100000 in
theorem more_n  : Meets Tryd.prog 29 [.bool false] [] (.i64 0) [] := by
 refine meets_of_ev (nt := 4) Tryd.func29 rfl rfl (Nat.le_of_ble_eq_true rfl) ?_
 refine .seq ?_
 refine .region ?_
 refine .q (op_assign rfl) trivial rfl ?_
 refine .nil ?_
 show Ev _ _ _ _ _
 refine .seq ?_
 refine .seq ?_
 refine .region ?_
 refine .q (op_move rfl) trivial rfl ?_
 refine .nil ?_
 show Ev _ _ _ _ _
 refine .cond_false rfl (rfl) ?_
 refine .skip ?_
 show Ev _ _ _ _ _
 refine .seq ?_
 refine .region ?_
 refine .q (op_assign rfl) trivial rfl ?_
 refine .nil ?_
 show Ev _ _ _ _ _
 refine .ret ?_
 show RetOk _ _ _ _ _ _ _
 exact ret1v rfl (.inl rfl) rfl rfl trivial
end Go.Proofs.YteefpaiefphdpaaDoor
