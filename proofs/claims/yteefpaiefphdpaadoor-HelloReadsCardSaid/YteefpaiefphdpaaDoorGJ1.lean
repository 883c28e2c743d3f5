/-
  Texts of this claim.
-/
import Derived.OwnWalk
import Derived.Lib.Bytealg
import Derived.Test.YteefpaiefphdpaaDoorGE
import Derived.Test.YteefpaiefphdpaaDoorGA
namespace Go.Proofs.YteefpaiefphdpaaDoor
open Go.RowKit
theorem ret3v {P : Program} {nt : Nat} {st : St} {fn : Func} {t u q : Tmp} {v1 v2 v3 v1' v2' v3' : AV} {H1 : List (Nat × Option ABlk)} {e : Exit} (hr : fn.results = #[.tmp t, .tmp u, .tmp q]) (he : e = .ret ∨ e = .normal) (hv : lk st.T t = some v1') (hu : lk st.T u = some v2') (hq : lk st.T q = some v3') (h1 : v1' = v1) (h2 : v2' = v2) (h3 : v3' = v3) (hH : HSub (hget st.H) H1) : RetOk P fn nt (.tup [v1, v2, v3]) H1 e st := by
  subst h1; subst h2; subst h3
  exact ⟨he, hH.spec, fun _ _ _ a w hR => ⟨_, results_tmp3 hr a.tmps P w, .tup _ _ rfl fun i x y hx hy => by
    match i, hx, hy with
    | 0, hx, hy => simp at hx hy; subst hx; subst hy; have := hR.rt t v1' hv; simpa using this
    | 1, hx, hy => simp at hx hy; subst hx; subst hy; have := hR.rt u v2' hu; simpa using this
    | 2, hx, hy => simp at hx hy; subst hx; subst hy; have := hR.rt q v3' hq; simpa using this
    | i + 3, hx, _ => simp at hx⟩⟩
section
variable {P : Program} {T : Nat → Option AV} {H : Hp} {nm : Nat} {wr : Bool} {d : Option Tmp} {ty t t2 e : TypeId} {ps : String} {af : Array Edge} {gd : Option (Nat × Bool)} {x y : Operand} {zv : Value}
/-- append(nil, ""...): nothing at all. -/
theorem op_catS_nil0 (ht : P.underlying t = some (.slice e)) (hi : Inf P e 1 zv) (ht2 : P.underlying t2 = some .string) (hx : aev T x = some .nilsl) (hy : aev T y = some (.str [])) :
    OpSem P T H ⟨d, .call { callee := .builtin .append, args := #[x, y], argTypes := #[t, t2] }, ty, ps, af, gd⟩ nm wr .nilsl [] :=
  .reads fun E S a w h hR => by
    obtain ⟨ie, hie, _, hsz, _, _⟩ := hi
    obtain ⟨news, hn, _, hl⟩ := (srcs_str (P := P) (H := H) hy).2 E S a w (fun u hu => h y (by simp [Op.operands, Call.operands]) _ hu) hR
    obtain ⟨h1, h2⟩ := hl w rfl
    have h3 := h2 0 (Nat.le_refl _)
    have e1 := (h x (by simp [Op.operands, Call.operands]) _ hx).nilsl_inv
    refine ⟨.slice none 0 0, ?_, .nilsl⟩
    have hrun : (Builtin.append_ #[t, t2] ty #[.slice none 0 0, a.eval y]).run P w = .ok (.slice none 0 0) w := by
      simp [Builtin.append_, run_underlying ht, run_underlying ht2, sizeOf, typeInfo, hie, hsz, h1, h3]
    simp [execOp, resolve, invoke, builtin, e1, hrun]
end
end Go.Proofs.YteefpaiefphdpaaDoor
namespace Go.Proofs.YteefpaiefphdpaaDoor
open Go.RowKit
theorem lt33 {c : UInt8} : c < 33 ↔ c ≤ 32 := by simp only [UInt8.lt_iff_toNat_lt, UInt8.le_iff_toNat_le, UInt8.reduceToNat]; omega
theorem slice_one {l : List UInt8} {j : Nat} (hj : j < l.length) : (l.drop j).take (j + 1 - j) = [l.getD j 0] := by
  rw [show j + 1 - j = 1 by omega, List.drop_eq_getElem_cons hj, List.take_succ_cons, List.take_zero]
  simp [List.getD_eq_getElem?_getD, hj]
set_option maxRecDepth 100000 in
theorem idxb_ev (s : List UInt8) (c : UInt8) : Meets Tryd.prog 174 [.str s, .u8 c] [] (.i64 (Lib.indexByte s c)) [] := by
 refine meets_of_ev (nt := 8) Tryd.func174 rfl rfl (Nat.le_of_ble_eq_true rfl) ?_
 refine .seq ?_
 refine .region ?_
 refine .q (op_assign rfl) trivial rfl ?_
 refine .nil ?_
 show Ev _ _ _ _ _
 refine .seq ?_
 refine .region ?_
 refine .q (op_move rfl) trivial rfl ?_
 refine .q (op_move rfl) trivial rfl ?_
 refine .q (op_indexByteStr Tryd.func181 (by kernel_rfl) (by kernel_rfl) (by kernel_rfl) (by kernel_rfl) rfl rfl) trivial rfl ?_
 refine .q (op_assign rfl) trivial rfl ?_
 refine .nil ?_
 show Ev _ _ _ _ _
 refine .ret ?_
 show RetOk _ _ _ _ _ _ _
 exact ret1v rfl (.inl rfl) rfl rfl trivial
set_option maxRecDepth 100000 in
theorem sidx_ev (s : List UInt8) (c : UInt8) : Meets Tryd.prog 163 [.str s, .str [c]] [] (.i64 (Lib.indexByte s c)) [] := by
 refine meets_of_ev (nt := 143) Tryd.func163 rfl rfl (Nat.le_of_ble_eq_true rfl) ?_
 refine .seq ?_
 refine .region ?_
 refine .q (op_assign rfl) trivial rfl ?_
 refine .nil ?_
 show Ev _ _ _ _ _
 refine .seq ?_
 refine .region ?_
 refine .q (op_move rfl) trivial rfl ?_
 refine .q (op_len_str Tryd.underlying9 rfl) trivial rfl ?_
 refine .q (op_assign rfl) trivial rfl ?_
 refine .nil ?_
 show Ev _ _ _ _ _
 refine .seq ?_
 refine .block ?_
 refine .seq ?_
 refine .region ?_
 refine .q (op_move rfl) trivial rfl ?_
 refine .q (op_cmpI rfl rfl rfl) trivial rfl ?_
 refine .q (op_move rfl) trivial rfl ?_
 refine .know (b' := false) (rfl) ?_
 refine .q (op_move rfl) ⟨_, rfl, rfl⟩ rfl ?_
 refine .q (op_move rfl) ⟨_, rfl, rfl⟩ rfl ?_
 refine .q (op_eqS rfl rfl rfl) ⟨_, rfl, rfl⟩ rfl ?_
 refine .q (op_pick_false rfl rfl rfl) trivial rfl ?_
 refine .q (op_assign rfl) trivial rfl ?_
 refine .nil ?_
 show Ev _ _ _ _ _
 refine .cond rfl (fun hc16 => ?_) (fun hc16 => ?_)
 ·first | replace hc16 := of_decide_eq_true hc16 | replace hc16 := of_decide_eq_false hc16 | replace hc16 := eq_of_beq hc16 | replace hc16 := ne_of_beq_false hc16 | simp only [bne_iff_ne, ne_eq] at hc16 | simp only [bne_eq_false_iff_eq] at hc16
  refine .seq ?_
  refine .region ?_
  refine .q (op_assign rfl) trivial rfl ?_
  refine .nil ?_
  show Ev _ _ _ _ _
  refine .ret ?_
  show RetOk _ _ _ _ _ _ _
  exact ret1v rfl (.inl rfl) rfl (congrArg AV.i64 (by first | rfl | (subst hc16; simp [Lib.indexByte]; done))) trivial
 ·first | replace hc16 := of_decide_eq_true hc16 | replace hc16 := of_decide_eq_false hc16 | replace hc16 := eq_of_beq hc16 | replace hc16 := ne_of_beq_false hc16 | simp only [bne_iff_ne, ne_eq] at hc16 | simp only [bne_eq_false_iff_eq] at hc16
  refine .seq ?_
  refine .region ?_
  refine .q (op_move rfl) trivial rfl ?_
  refine .q (op_cmpI rfl rfl rfl) trivial rfl ?_
  refine .q (op_assign rfl) trivial rfl ?_
  refine .nil ?_
  show Ev _ _ _ _ _
  refine .cond_true rfl (rfl) ?_
  refine .seq ?_
  refine .region ?_
  refine .q (op_move rfl) trivial rfl ?_
  refine .q (op_move rfl) trivial rfl ?_
  refine .q (op_index_str Tryd.underlying9 rfl rfl rfl (by first | omega | (skip; omega) | (skip; omega) | assumption | (simp; done))) trivial rfl ?_
  refine .q (op_call (U := []) [] [] (idxb_ev s c) Tryd.func174 (by kernel_rfl) rfl rfl rfl (⟨⟨_, rfl, rfl, rfl⟩, ⟨_, rfl, rfl, rfl⟩, trivial⟩) (trivial) (trivial) (trivial) rfl) trivial rfl ?_
  refine .q (op_assign rfl) trivial rfl ?_
  refine .nil ?_
  show Ev _ _ _ _ _
  refine .ret ?_
  show RetOk _ _ _ _ _ _ _
  exact ret1v rfl (.inl rfl) rfl (congrArg AV.i64 (by first | rfl | (subst hc16; simp [Lib.indexByte]; done))) trivial
set_option maxRecDepth 100000 in
theorem index_ev (s : List UInt8) (c : UInt8) : Meets Tryd.prog 162 [.str s, .str [c]] [] (.i64 (Lib.indexByte s c)) [] := by
 refine meets_of_ev (nt := 8) Tryd.func162 rfl rfl (Nat.le_of_ble_eq_true rfl) ?_
 refine .seq ?_
 refine .region ?_
 refine .q (op_assign rfl) trivial rfl ?_
 refine .nil ?_
 show Ev _ _ _ _ _
 refine .seq ?_
 refine .region ?_
 refine .q (op_move rfl) trivial rfl ?_
 refine .q (op_move rfl) trivial rfl ?_
 refine .q (op_call (U := []) [] [] (sidx_ev s c) Tryd.func163 (by kernel_rfl) rfl rfl rfl (⟨⟨_, rfl, rfl, rfl⟩, ⟨_, rfl, rfl, rfl⟩, trivial⟩) (trivial) (trivial) (trivial) rfl) trivial rfl ?_
 refine .q (op_assign rfl) trivial rfl ?_
 refine .nil ?_
 show Ev _ _ _ _ _
 refine .ret ?_
 show RetOk _ _ _ _ _ _ _
 exact ret1v rfl (.inl rfl) rfl rfl trivial
set_option maxRecDepth 100000 in
theorem contains_ev (s : List UInt8) (c : UInt8) : Meets Tryd.prog 146 [.str s, .str [c]] [] (.bool (decide (0 ≤ Lib.indexByte s c))) [] := by
 refine meets_of_ev (nt := 9) Tryd.func146 rfl rfl (Nat.le_of_ble_eq_true rfl) ?_
 refine .seq ?_
 refine .region ?_
 refine .q (op_assign rfl) trivial rfl ?_
 refine .nil ?_
 show Ev _ _ _ _ _
 refine .seq ?_
 refine .region ?_
 refine .q (op_move rfl) trivial rfl ?_
 refine .q (op_move rfl) trivial rfl ?_
 refine .q (op_call (U := []) [] [] (index_ev s c) Tryd.func162 (by kernel_rfl) rfl rfl rfl (⟨⟨_, rfl, rfl, rfl⟩, ⟨_, rfl, rfl, rfl⟩, trivial⟩) (trivial) (trivial) (trivial) rfl) trivial rfl ?_
 refine .q (op_cmpI rfl rfl rfl) trivial rfl ?_
 refine .q (op_assign rfl) trivial rfl ?_
 refine .nil ?_
 show Ev _ _ _ _ _
 refine .ret ?_
 show RetOk _ _ _ _ _ _ _
 exact ret1v rfl (.inl rfl) rfl rfl trivial
set_option maxRecDepth 100000 in
theorem cut_ev (s : List UInt8) (n : Nat) (_hs : s.length ≤ 9223372036854775807) : Meets Tryd.prog 11 [.str s, .i64 (n : Int)] [] (.str (s.take n)) [] := by
 refine meets_of_ev (nt := 13) Tryd.func11 rfl rfl (Nat.le_of_ble_eq_true rfl) ?_
 refine .seq ?_
 refine .region ?_
 refine .q (op_assign rfl) trivial rfl ?_
 refine .nil ?_
 show Ev _ _ _ _ _
 refine .seq ?_
 refine .seq ?_
 refine .region ?_
 refine .q (op_move rfl) trivial rfl ?_
 refine .q (op_len_str Tryd.underlying9 rfl) trivial rfl ?_
 refine .q (op_move rfl) trivial rfl ?_
 refine .q (op_cmpI rfl rfl rfl) trivial rfl ?_
 refine .nil ?_
 show Ev _ _ _ _ _
 refine .cond rfl (fun hc8 => ?_) (fun hc8 => ?_)
 ·first | replace hc8 := of_decide_eq_true hc8 | replace hc8 := of_decide_eq_false hc8 | replace hc8 := eq_of_beq hc8 | replace hc8 := ne_of_beq_false hc8 | simp only [bne_iff_ne, ne_eq] at hc8 | simp only [bne_eq_false_iff_eq] at hc8
  refine .seq ?_
  refine .region ?_
  refine .q (op_move rfl) trivial rfl ?_
  refine .q (op_move rfl) trivial rfl ?_
  refine .q (ap_slice_str_hi Tryd.underlying9 rfl (bnd_some rfl rfl) (by omega)) trivial rfl ?_
  refine .q (op_assign rfl) trivial rfl ?_
  refine .nil ?_
  show Ev _ _ _ _ _
  refine .ret ?_
  show RetOk _ _ _ _ _ _ _
  exact ret1v rfl (.inl rfl) rfl (congrArg AV.str (by first | rfl | exact (List.take_of_length_le (by omega)).symm)) trivial
 ·first | replace hc8 := of_decide_eq_true hc8 | replace hc8 := of_decide_eq_false hc8 | replace hc8 := eq_of_beq hc8 | replace hc8 := ne_of_beq_false hc8 | simp only [bne_iff_ne, ne_eq] at hc8 | simp only [bne_eq_false_iff_eq] at hc8
  refine .skip ?_
  show Ev _ _ _ _ _
  refine .seq ?_
  refine .region ?_
  refine .q (op_move rfl) trivial rfl ?_
  refine .q (op_assign rfl) trivial rfl ?_
  refine .nil ?_
  show Ev _ _ _ _ _
  refine .ret ?_
  show RetOk _ _ _ _ _ _ _
  exact ret1v rfl (.inl rfl) rfl (congrArg AV.str (by first | rfl | exact (List.take_of_length_le (by omega)).symm)) trivial
end Go.Proofs.YteefpaiefphdpaaDoor
namespace Go.Proofs.YteefpaiefphdpaaDoor
/-- What a reader of a version line knows. -/
structure HD where
  c : Bool
  p : List UInt8
  g : Nat
  v : List UInt8
  e : Nat
def cutB (c : UInt8) (s : List UInt8) : List UInt8 := s.takeWhile fun x => x != c
def swOk (c : UInt8) : Bool := !(decide (c ≤ 32) || decide (126 < c) || c == 45)
def softOk (s : List UInt8) : Bool := !(s == []) && decide (s.length ≤ 64) && s.all swOk
def crB (s : List UInt8) : List UInt8 := if s.getLast? = some 13 then s.take (s.length - 1) else s
def sshP : List UInt8 := [83, 83, 72, 45]
def ssh2 : List UInt8 := [83, 83, 72, 45, 50, 46, 48, 45]
def ssh1 : List UInt8 := [83, 83, 72, 45, 49, 46, 57, 57, 45]
def begB (p s : List UInt8) : Bool := s.take p.length == p
def restB (s : List UInt8) : List UInt8 := if begB ssh2 s then s.drop 8 else if begB ssh1 s then s.drop 9 else s
def verB (s : List UInt8) : Bool := (begB ssh2 s || begB ssh1 s) && softOk (cutB 32 (restB s))
/-- What a whole line is answered with, and what is known then. -/
def procE (h : HD) (l : List UInt8) : Nat := if l.contains 0 then 3 else if begB sshP l then (if verB l then 0 else 12) else if h.c = false ∨ h.g = 16 then 12 else 0
def procH (h : HD) (l : List UInt8) : HD := if l.contains 0 then h else if begB sshP l then (if verB l then { h with v := l } else h) else if h.c = false ∨ h.g = 16 then h else { h with g := h.g + 1 }
def pieceD (h : HD) (s : List UInt8) : List UInt8 := s.take (255 - h.p.length)
def lineD (h : HD) (s : List UInt8) : List UInt8 := crB (h.p ++ cutB 10 (pieceD h s))
/-- One round of Feed. -/
def readD (h : HD) (s : List UInt8) : HD × List UInt8 :=
  if (pieceD h s).contains 10 then
    ({ procH { h with p := [] } (lineD h s) with e := procE { h with p := [] } (lineD h s) }, s.drop ((cutB 10 (pieceD h s)).length + 1))
  else if h.p.length + (pieceD h s).length = 255 then ({ h with p := [], e := 4 }, [])
  else ({ h with p := h.p ++ pieceD h s }, [])
def goesD (h : HD) (s : List UInt8) : Bool := !(s == []) && decide (h.e = 0) && (h.v == [])
theorem readD_lt {h : HD} {s : List UInt8} (hs : s ≠ []) : (readD h s).2.length < s.length := by
  have hp : 0 < s.length := List.length_pos_iff.2 hs
  unfold readD
  split
  · simp only [List.length_drop]; omega
  · split <;> simpa using hp
def feedD (h : HD) (s : List UInt8) : HD × List UInt8 :=
  if hg : goesD h s = true then
    have : (readD h s).2.length < s.length := readD_lt (by intro e; subst e; simp [goesD] at hg)
    feedD (readD h s).1 (readD h s).2
  else (h, s)
termination_by s.length
theorem feedD_go {h : HD} {s : List UInt8} (hg : goesD h s = true) : feedD h s = feedD (readD h s).1 (readD h s).2 := by
  rw [feedD, dif_pos hg]
theorem feedD_end {h : HD} {s : List UInt8} (hg : goesD h s = false) : feedD h s = (h, s) := by
  rw [feedD, dif_neg (by rw [hg]; simp)]
theorem cutB_le (c : UInt8) (s : List UInt8) : (cutB c s).length ≤ s.length := (List.takeWhile_sublist _).length_le
theorem crB_le (s : List UInt8) : (crB s).length ≤ s.length := by unfold crB; split <;> simp
theorem cut_lt : ∀ (c : UInt8) (s : List UInt8), s.contains c = true → (cutB c s).length < s.length
  | c, [], h => by simp at h
  | c, x :: s, h => by
    unfold cutB
    by_cases hx : x = c
    · subst hx; simp
    · have hb : (x != c) = true := by simpa using hx
      rw [List.takeWhile_cons, if_pos hb]
      have : s.contains c = true := by
        simp only [List.contains_cons, Bool.or_eq_true, beq_iff_eq] at h
        exact h.resolve_left (fun e => hx e.symm)
      have := cut_lt c s this
      unfold cutB at this
      simpa using this
/-- Where the first of a byte stands. -/
theorem idx_cut : ∀ (c : UInt8) (s : List UInt8), s.contains c = true → Lib.indexByte s c = (((cutB c s).length : Nat) : Int)
  | c, [], h => by simp at h
  | c, x :: s, h => by
    unfold cutB
    by_cases hx : x = c
    · subst hx; simp [Lib.indexByte]
    · have hb : (x != c) = true := by simpa using hx
      have hb2 : (x == c) = false := by simpa using hx
      have hs : s.contains c = true := by
        simp only [List.contains_cons, Bool.or_eq_true, beq_iff_eq] at h
        exact h.resolve_left (fun e => hx e.symm)
      have ih := idx_cut c s hs
      rw [List.takeWhile_cons, if_pos hb]
      unfold cutB at ih
      simp only [Lib.indexByte, hb2, ih, List.length_cons]
      have : ((((s.takeWhile fun x => x != c).length : Nat) : Int) == -1) = false := by rw [beq_eq_false_iff_ne]; omega
      simp [this]
theorem idx_none : ∀ (c : UInt8) (s : List UInt8), s.contains c = false → Lib.indexByte s c = -1
  | c, [], _ => rfl
  | c, x :: s, h => by
    simp only [List.contains_cons, Bool.or_eq_false_iff] at h
    have hb2 : (x == c) = false := by have := h.1; rw [beq_eq_false_iff_ne] at this ⊢; exact fun e => this e.symm
    simp [Lib.indexByte, hb2, idx_none c s h.2]
theorem cut_take : ∀ (c : UInt8) (s : List UInt8), s.take (cutB c s).length = cutB c s
  | c, [] => rfl
  | c, x :: s => by
    unfold cutB
    rw [List.takeWhile_cons]
    split
    · have := cut_take c s; unfold cutB at this; simp [this]
    · rfl
theorem cut_none : ∀ (c : UInt8) (s : List UInt8), s.contains c = false → cutB c s = s
  | c, [], _ => rfl
  | c, x :: s, h => by
    simp only [List.contains_cons, Bool.or_eq_false_iff] at h
    have hb : (x != c) = true := by have := h.1; rw [beq_eq_false_iff_ne] at this; simpa using fun e => this e.symm
    unfold cutB
    rw [List.takeWhile_cons, if_pos hb]
    have := cut_none c s h.2; unfold cutB at this; rw [this]
theorem cut_split : ∀ (c : UInt8) (s : List UInt8), s.contains c = true → s = cutB c s ++ c :: s.drop ((cutB c s).length + 1)
  | c, [], h => by simp at h
  | c, x :: s, h => by
    unfold cutB
    by_cases hx : x = c
    · subst hx; simp
    · have hb : (x != c) = true := by simpa using hx
      have hs : s.contains c = true := by
        simp only [List.contains_cons, Bool.or_eq_true, beq_iff_eq] at h
        exact h.resolve_left (fun e => hx e.symm)
      have ih := cut_split c s hs
      rw [List.takeWhile_cons, if_pos hb]
      unfold cutB at ih
      simp only [List.length_cons, List.drop_succ_cons, List.cons_append]
      rw [← ih]
theorem cut_not : ∀ (c : UInt8) (s : List UInt8), (cutB c s).contains c = false
  | c, [] => rfl
  | c, x :: s => by
    unfold cutB
    rw [List.takeWhile_cons]
    split
    · rename_i h
      have hx : (c == x) = false := by rw [beq_eq_false_iff_ne]; intro e; subst e; simp at h
      have := cut_not c s; unfold cutB at this
      rw [List.contains_cons, hx, this]; rfl
    · rfl

/-! The reference, over all bytes at once. -/
structure AnsD where
  v : List UInt8
  r : List UInt8
  e : Nat
def allD : List UInt8 → List UInt8 → Nat → AnsD
  | [], _, _ => ⟨[], [], 0⟩
  | x :: s, l, m =>
    if x ≠ 10 then (if 254 < l.length + 1 then ⟨[], [], 4⟩ else allD s (l ++ [x]) m)
    else if (crB l).contains 0 then ⟨[], [], 3⟩
    else if begB sshP (crB l) then (if verB (crB l) then ⟨crB l, s, 0⟩ else ⟨[], [], 12⟩)
    else if m = 0 then ⟨[], [], 12⟩
    else allD s [] (m - 1)
theorem allD_text : ∀ (t s l : List UInt8) (m : Nat), t.contains 10 = false → l.length + t.length ≤ 254 → allD (t ++ s) l m = allD s (l ++ t) m
  | [], s, l, m, _, _ => by simp
  | x :: t, s, l, m, h, hl => by
    simp only [List.contains_cons, Bool.or_eq_false_iff] at h
    have hx : x ≠ 10 := fun e => by subst e; simp at h
    have hl2 : l.length + (t.length + 1) ≤ 254 := hl
    show (if x ≠ 10 then _ else _) = _
    rw [if_pos hx, if_neg (by omega)]
    refine (allD_text t s (l ++ [x]) m h.2 (by simp; omega)).trans ?_
    simp
theorem allD_big : ∀ (t s l : List UInt8) (m : Nat), t.contains 10 = false → l.length ≤ 254 → 254 < l.length + t.length → allD (t ++ s) l m = ⟨[], [], 4⟩
  | [], s, l, m, _, h, hl => by simp at hl; omega
  | x :: t, s, l, m, h, hl0, hl => by
    simp only [List.contains_cons, Bool.or_eq_false_iff] at h
    have hx : x ≠ 10 := fun e => by subst e; simp at h
    have hl2 : 254 < l.length + (t.length + 1) := hl
    show (if x ≠ 10 then _ else _) = _
    rw [if_pos hx]
    by_cases hc : 254 < l.length + 1
    · rw [if_pos hc]
    · rw [if_neg hc]
      exact allD_big t s (l ++ [x]) m h.2 (by simp; omega) (by simp; omega)
def moreD (h : HD) : Nat := if h.c then 16 - h.g else 0
theorem allD_line (s l : List UInt8) (h : HD) (hg : h.g ≤ 16) (hv : h.v = []) :
    allD (10 :: s) l (moreD h) = if procE h (crB l) ≠ 0 then ⟨[], [], procE h (crB l)⟩ else if (procH h (crB l)).v = [] then allD s [] (moreD (procH h (crB l))) else ⟨(procH h (crB l)).v, s, 0⟩ := by
  show (if (10 : UInt8) ≠ 10 then _ else _) = _
  rw [if_neg (by simp)]
  unfold procE procH
  by_cases h1 : (crB l).contains 0 = true
  · simp only [h1, if_true]; simp
  simp only [h1, Bool.false_eq_true, if_false]
  by_cases h2 : begB sshP (crB l) = true
  · simp only [h2, if_true]
    by_cases h3 : verB (crB l) = true
    · simp only [h3, if_true]
      have : crB l ≠ [] := fun e => by rw [e] at h2; exact absurd h2 (by decide)
      simp [this]
    · simp [h3]
  simp only [h2, Bool.false_eq_true, if_false]
  by_cases h3 : h.c = false ∨ h.g = 16
  · simp only [h3, if_true]
    have : moreD h = 0 := by unfold moreD; rcases h3 with h3 | h3 <;> simp [h3]
    simp [this]
  · simp only [h3, if_false]
    have hc : h.c = true := by have := fun e => h3 (.inl e); revert this; cases h.c <;> simp
    have hg2 : h.g ≠ 16 := fun e => h3 (.inr e)
    have e1 : moreD h = 16 - h.g := by unfold moreD; simp [hc]
    have e2 : moreD { h with g := h.g + 1 } = 16 - (h.g + 1) := by unfold moreD; simp [hc]
    rw [e1, e2, if_neg (by omega), if_neg (by simp), if_pos hv]
    rfl
/-- A reader that still reads. -/
structure HD.open (h : HD) : Prop where
  e : h.e = 0
  v : h.v = []
  p : h.p.length ≤ 254
  g : h.g ≤ 16
/-- What has been read so far, of all that comes. -/
def soD (h : HD) (s : List UInt8) : AnsD := if h.e ≠ 0 then ⟨[], [], h.e⟩ else if h.v = [] then allD s h.p (moreD h) else ⟨h.v, s, 0⟩
structure HD.fine (h : HD) : Prop where
  p : h.p.length ≤ 254
  g : h.g ≤ 16
  ev : h.e ≠ 0 → h.v = []
  pv : h.v ≠ [] → h.p = []
  pe : h.e ≠ 0 → h.p = []
theorem procH_g (h : HD) (l : List UInt8) (hg : h.g ≤ 16) : (procH h l).g ≤ 16 := by
  unfold procH
  split
  · exact hg
  split
  · split <;> exact hg
  split
  · exact hg
  · rename_i h3
    have : h.g ≠ 16 := fun e => h3 (.inr e)
    show h.g + 1 ≤ 16
    omega
theorem procH_p (h : HD) (l : List UInt8) : (procH h l).p = h.p := by
  unfold procH
  split
  · rfl
  split
  · split <;> rfl
  split <;> rfl
theorem procH_c (h : HD) (l : List UInt8) : (procH h l).c = h.c := by
  unfold procH
  split
  · rfl
  split
  · split <;> rfl
  split <;> rfl
theorem procE_v (h : HD) (l : List UInt8) (hv : h.v = []) (he : procE h l ≠ 0) : (procH h l).v = [] := by
  unfold procE at he
  unfold procH
  split
  · exact hv
  · rename_i h1
    rw [if_neg h1] at he
    split
    · rename_i h2
      rw [if_pos h2] at he
      split
      · rename_i h3; rw [if_pos h3] at he; exact absurd rfl he
      · exact hv
    · split <;> exact hv
theorem goes_open {h : HD} {s : List UInt8} (hf : h.fine) (hg : goesD h s = true) : h.open ∧ s ≠ [] := by
  simp only [goesD, Bool.and_eq_true, Bool.not_eq_true', beq_eq_false_iff_ne, decide_eq_true_eq, beq_iff_eq] at hg
  exact ⟨⟨hg.1.2, hg.2, hf.p, hf.g⟩, hg.1.1⟩
theorem read_fine {h : HD} {s : List UInt8} (hf : h.fine) (ho : h.open) : (readD h s).1.fine := by
  unfold readD
  split
  · refine ⟨by show (procH _ _).p.length ≤ 254; rw [procH_p]; exact Nat.zero_le _, procH_g _ _ hf.g, fun he => procE_v _ _ ho.v he, fun _ => procH_p _ _, fun _ => procH_p _ _⟩
  · split
    · exact ⟨Nat.zero_le _, hf.g, fun _ => ho.v, fun _ => rfl, fun _ => rfl⟩
    · rename_i h2
      refine ⟨?_, hf.g, fun he => absurd ho.e he, fun hv => absurd ho.v hv, fun he => absurd ho.e he⟩
      have : (pieceD h s).length ≤ 255 - h.p.length := by unfold pieceD; simp; omega
      have := hf.p
      show (h.p ++ pieceD h s).length ≤ 254
      rw [List.length_append]; omega
theorem so_read {h : HD} {s : List UInt8} (r : List UInt8) (ho : h.open) : soD h (s ++ r) = soD (readD h s).1 ((readD h s).2 ++ r) := by
  have e0 : soD h (s ++ r) = allD (s ++ r) h.p (moreD h) := by unfold soD; rw [if_neg (fun e => e ho.e), if_pos ho.v]
  have hp := ho.p
  have hpl : (pieceD h s).length = min (255 - h.p.length) s.length := by unfold pieceD; simp
  rw [e0]
  unfold readD
  by_cases hc : (pieceD h s).contains 10 = true
  · rw [if_pos hc]
    have hlt := cut_lt 10 _ hc
    have hs : s = cutB 10 (pieceD h s) ++ 10 :: s.drop ((cutB 10 (pieceD h s)).length + 1) := by
      have h1 := cut_split 10 _ hc
      have h2 : s = pieceD h s ++ s.drop (255 - h.p.length) := by unfold pieceD; simp
      have h3 : (cutB 10 (pieceD h s)).length + 1 ≤ (pieceD h s).length := hlt
      have h4 : s.drop ((cutB 10 (pieceD h s)).length + 1) = (pieceD h s).drop ((cutB 10 (pieceD h s)).length + 1) ++ s.drop (255 - h.p.length) := by
        generalize (cutB 10 (pieceD h s)).length + 1 = k at h3 ⊢
        rw [← List.drop_append_of_le_length h3]
        exact congrArg (List.drop k) h2
      rw [h4, ← List.cons_append, ← List.append_assoc, ← h1]
      exact h2
    have key : allD (s ++ r) h.p (moreD h) = allD (10 :: (s.drop ((cutB 10 (pieceD h s)).length + 1) ++ r)) (h.p ++ cutB 10 (pieceD h s)) (moreD { h with p := [] }) := by
      conv => lhs; rw [hs]
      rw [List.append_assoc, allD_text _ _ _ _ (cut_not _ _) (by omega)]
      rfl
    rw [key, allD_line _ _ { h with p := [] } ho.g ho.v]
    have hpp : (procH { h with p := [] } (lineD h s)).p = [] := procH_p _ _
    unfold soD
    show (if procE { h with p := [] } (lineD h s) ≠ 0 then _ else _) = (if procE { h with p := [] } (lineD h s) ≠ 0 then _ else if (procH { h with p := [] } (lineD h s)).v = [] then allD _ (procH { h with p := [] } (lineD h s)).p _ else _)
    rw [hpp]
    rfl
  · rw [if_neg hc]
    have hc' : (pieceD h s).contains 10 = false := by simpa using hc
    have h2 : s = pieceD h s ++ s.drop (255 - h.p.length) := by unfold pieceD; simp
    by_cases hb : h.p.length + (pieceD h s).length = 255
    · rw [if_pos hb]
      conv => lhs; rw [h2]
      rw [List.append_assoc, allD_big _ _ _ _ hc' hp (by omega)]
      rfl
    · rw [if_neg hb]
      have hd : s.drop (255 - h.p.length) = [] := List.drop_of_length_le (by omega)
      conv => lhs; rw [h2]
      rw [hd, List.append_nil, allD_text _ _ _ _ hc' (by omega)]
      unfold soD
      rw [if_neg (fun e => e ho.e), if_pos ho.v]
      rfl
theorem feed_fine : ∀ (n : Nat) (h : HD) (s : List UInt8), s.length ≤ n → h.fine → (feedD h s).1.fine ∧ goesD (feedD h s).1 (feedD h s).2 = false ∧ (∀ r, soD h (s ++ r) = soD (feedD h s).1 ((feedD h s).2 ++ r)) := by
  intro n
  induction n with
  | zero =>
    intro h s hl hf
    have : s = [] := List.eq_nil_of_length_eq_zero (by omega)
    subst this
    rw [feedD_end (by simp [goesD])]
    exact ⟨hf, by simp [goesD], fun r => rfl⟩
  | succ n ih =>
    intro h s hl hf
    cases hg : goesD h s with
    | false => rw [feedD_end hg]; exact ⟨hf, hg, fun r => rfl⟩
    | true =>
      obtain ⟨ho, hs⟩ := goes_open hf hg
      have hlt := readD_lt (h := h) hs
      rw [feedD_go hg]
      obtain ⟨a, b, c⟩ := ih (readD h s).1 (readD h s).2 (by omega) (read_fine hf ho)
      exact ⟨a, b, fun r => (so_read r ho).trans (c r)⟩
end Go.Proofs.YteefpaiefphdpaaDoor
namespace Go.Proofs.YteefpaiefphdpaaDoor
open Go.RowKit
theorem begB_iff {p s : List UInt8} : begB p s = true ↔ p.length ≤ s.length ∧ s.take p.length = p := by
  unfold begB
  rw [beq_iff_eq]
  constructor
  · intro h
    refine ⟨?_, h⟩
    have := congrArg List.length h
    rw [List.length_take] at this; omega
  · exact fun h => h.2
theorem beg_short {p s : List UInt8} (h : ¬ (p.length : Int) ≤ (s.length : Int)) : begB p s = false := by
  cases hb : begB p s with
  | false => rfl
  | true => exact absurd (begB_iff.1 hb).1 (by omega)
theorem has_idx (c : UInt8) (s : List UInt8) : decide (0 ≤ Lib.indexByte s c) = s.contains c := by
  cases h : s.contains c with
  | true => rw [idx_cut c s h]; exact decide_eq_true (by omega)
  | false => rw [idx_none c s h]; rfl
set_option maxRecDepth 100000 in
theorem hpfx_ev (s p : List UInt8) : Meets Tryd.prog 165 [.str s, .str p] [] (.bool (begB p s)) [] := by
 refine meets_of_ev (nt := 18) Tryd.func165 rfl rfl (Nat.le_of_ble_eq_true rfl) ?_
 refine .seq ?_
 refine .region ?_
 refine .q (op_assign rfl) trivial rfl ?_
 refine .nil ?_
 show Ev _ _ _ _ _
 refine .seq ?_
 refine .region ?_
 refine .q (op_move rfl) trivial rfl ?_
 refine .q (op_len_str Tryd.underlying9 rfl) trivial rfl ?_
 refine .q (op_move rfl) trivial rfl ?_
 refine .q (op_len_str Tryd.underlying9 rfl) trivial rfl ?_
 refine .q (op_cmpI rfl rfl rfl) trivial rfl ?_
 refine .q (op_move rfl) trivial rfl ?_
 refine .split (fun hg10 => ?_) (fun hg10 => ?_)
 ·first | replace hg10 := of_decide_eq_true hg10 | replace hg10 := of_decide_eq_false hg10 | replace hg10 := eq_of_beq hg10 | replace hg10 := ne_of_beq_false hg10 | simp only [bne_iff_ne, ne_eq] at hg10 | simp only [bne_eq_false_iff_eq] at hg10
  refine .q (op_move rfl) ⟨_, rfl, rfl⟩ rfl ?_
  refine .q (op_move rfl) ⟨_, rfl, rfl⟩ rfl ?_
  refine .q (op_len_str Tryd.underlying9 rfl) ⟨_, rfl, rfl⟩ rfl ?_
  refine .q (ap_slice_str_hi Tryd.underlying9 rfl (bnd_some rfl (l := p.length) rfl) (by omega)) ⟨_, rfl, rfl⟩ rfl ?_
  refine .q (op_move rfl) ⟨_, rfl, rfl⟩ rfl ?_
  refine .q (op_eqS rfl rfl rfl) ⟨_, rfl, rfl⟩ rfl ?_
  refine .q (op_pick_true rfl rfl rfl) trivial rfl ?_
  refine .q (op_assign rfl) trivial rfl ?_
  refine .nil ?_
  show Ev _ _ _ _ _
  refine .ret ?_
  show RetOk _ _ _ _ _ _ _
  exact ret1v rfl (.inl rfl) rfl (congrArg AV.bool (by first | rfl | (show false = begB p s; symm; exact beg_short (by omega)) | (show (_ == p) = begB p s; unfold begB; simp))) trivial
 ·first | replace hg10 := of_decide_eq_true hg10 | replace hg10 := of_decide_eq_false hg10 | replace hg10 := eq_of_beq hg10 | replace hg10 := ne_of_beq_false hg10 | simp only [bne_iff_ne, ne_eq] at hg10 | simp only [bne_eq_false_iff_eq] at hg10
  refine .no ⟨_, rfl, rfl⟩ rfl ?_
  refine .no ⟨_, rfl, rfl⟩ rfl ?_
  refine .no ⟨_, rfl, rfl⟩ rfl ?_
  refine .no ⟨_, rfl, rfl⟩ rfl ?_
  refine .no ⟨_, rfl, rfl⟩ rfl ?_
  refine .no ⟨_, rfl, rfl⟩ rfl ?_
  refine .q (op_pick_false rfl rfl rfl) trivial rfl ?_
  refine .q (op_assign rfl) trivial rfl ?_
  refine .nil ?_
  show Ev _ _ _ _ _
  refine .ret ?_
  show RetOk _ _ _ _ _ _ _
  exact ret1v rfl (.inl rfl) rfl (congrArg AV.bool (by first | rfl | (show false = begB p s; symm; exact beg_short (by omega)) | (show (_ == p) = begB p s; unfold begB; simp))) trivial
set_option maxRecDepth 100000 in
theorem hasp_ev (s p : List UInt8) : Meets Tryd.prog 147 [.str s, .str p] [] (.bool (begB p s)) [] := by
 refine meets_of_ev (nt := 8) Tryd.func147 rfl rfl (Nat.le_of_ble_eq_true rfl) ?_
 refine .seq ?_
 refine .region ?_
 refine .q (op_assign rfl) trivial rfl ?_
 refine .nil ?_
 show Ev _ _ _ _ _
 refine .seq ?_
 refine .region ?_
 refine .q (op_move rfl) trivial rfl ?_
 refine .q (op_move rfl) trivial rfl ?_
 refine .q (op_call (U := []) [] [] (hpfx_ev s p) Tryd.func165 (by kernel_rfl) rfl rfl rfl (⟨⟨_, rfl, rfl, rfl⟩, ⟨_, rfl, rfl, rfl⟩, trivial⟩) (trivial) (trivial) (trivial) rfl) trivial rfl ?_
 refine .q (op_assign rfl) trivial rfl ?_
 refine .nil ?_
 show Ev _ _ _ _ _
 refine .ret ?_
 show RetOk _ _ _ _ _ _ _
 exact ret1v rfl (.inl rfl) rfl rfl trivial
set_option maxRecDepth 100000 in
theorem cutp_y (s p : List UInt8) (h : begB p s = true) : Meets Tryd.prog 178 [.str s, .str p] [] (.tup [.str (s.drop p.length), .bool true]) [] := by
 refine meets_of_ev (nt := 15) Tryd.func178 rfl rfl (Nat.le_of_ble_eq_true rfl) ?_
 refine .seq ?_
 refine .region ?_
 refine .q (op_assign rfl) trivial rfl ?_
 refine .q (op_assign rfl) trivial rfl ?_
 refine .nil ?_
 show Ev _ _ _ _ _
 refine .seq ?_
 refine .seq ?_
 refine .region ?_
 refine .q (op_move rfl) trivial rfl ?_
 refine .q (op_move rfl) trivial rfl ?_
 refine .q (op_call (U := []) [] [] (hpfx_ev s p) Tryd.func165 (by kernel_rfl) rfl rfl rfl (⟨⟨_, rfl, rfl, rfl⟩, ⟨_, rfl, rfl, rfl⟩, trivial⟩) (trivial) (trivial) (trivial) rfl) trivial rfl ?_
 refine .q (op_notB rfl) trivial rfl ?_
 refine .nil ?_
 show Ev _ _ _ _ _
 refine .cond_false rfl (by rw [h]; rfl) ?_
 refine .skip ?_
 show Ev _ _ _ _ _
 refine .seq ?_
 refine .region ?_
 refine .q (op_move rfl) trivial rfl ?_
 refine .q (op_move rfl) trivial rfl ?_
 refine .q (op_len_str Tryd.underlying9 rfl) trivial rfl ?_
 refine .q (ap_slice_str_lo Tryd.underlying9 rfl (bnd_some rfl (l := p.length) rfl) ((begB_iff.1 h).1)) trivial rfl ?_
 refine .q (op_assign rfl) trivial rfl ?_
 refine .q (op_assign rfl) trivial rfl ?_
 refine .nil ?_
 show Ev _ _ _ _ _
 refine .ret ?_
 show RetOk _ _ _ _ _ _ _
 exact ret2v rfl (.inl rfl) rfl rfl rfl rfl trivial
set_option maxRecDepth 100000 in
theorem scutp_y (s p : List UInt8) (h : begB p s = true) : Meets Tryd.prog 166 [.str s, .str p] [] (.tup [.str (s.drop p.length), .bool true]) [] := by
 refine meets_of_ev (nt := 11) Tryd.func166 rfl rfl (Nat.le_of_ble_eq_true rfl) ?_
 refine .seq ?_
 refine .region ?_
 refine .q (op_assign rfl) trivial rfl ?_
 refine .q (op_assign rfl) trivial rfl ?_
 refine .nil ?_
 show Ev _ _ _ _ _
 refine .seq ?_
 refine .region ?_
 refine .q (op_move rfl) trivial rfl ?_
 refine .q (op_move rfl) trivial rfl ?_
 refine .q (op_call (U := []) [] [] (cutp_y s p h) Tryd.func178 (by kernel_rfl) rfl rfl rfl (⟨⟨_, rfl, rfl, rfl⟩, ⟨_, rfl, rfl, rfl⟩, trivial⟩) (trivial) (trivial) (trivial) rfl) trivial rfl ?_
 refine .q (op_extract rfl rfl) trivial rfl ?_
 refine .q (op_extract rfl rfl) trivial rfl ?_
 refine .q (op_assign rfl) trivial rfl ?_
 refine .q (op_assign rfl) trivial rfl ?_
 refine .nil ?_
 show Ev _ _ _ _ _
 refine .ret ?_
 show RetOk _ _ _ _ _ _ _
 exact ret2v rfl (.inl rfl) rfl rfl rfl rfl trivial
set_option maxRecDepth 100000 in
theorem cutp_n (s p : List UInt8) (h : begB p s = false) : Meets Tryd.prog 178 [.str s, .str p] [] (.tup [.str s, .bool false]) [] := by
 refine meets_of_ev (nt := 15) Tryd.func178 rfl rfl (Nat.le_of_ble_eq_true rfl) ?_
 refine .seq ?_
 refine .region ?_
 refine .q (op_assign rfl) trivial rfl ?_
 refine .q (op_assign rfl) trivial rfl ?_
 refine .nil ?_
 show Ev _ _ _ _ _
 refine .seq ?_
 refine .seq ?_
 refine .region ?_
 refine .q (op_move rfl) trivial rfl ?_
 refine .q (op_move rfl) trivial rfl ?_
 refine .q (op_call (U := []) [] [] (hpfx_ev s p) Tryd.func165 (by kernel_rfl) rfl rfl rfl (⟨⟨_, rfl, rfl, rfl⟩, ⟨_, rfl, rfl, rfl⟩, trivial⟩) (trivial) (trivial) (trivial) rfl) trivial rfl ?_
 refine .q (op_notB rfl) trivial rfl ?_
 refine .nil ?_
 show Ev _ _ _ _ _
 refine .cond_true rfl (by rw [h]; rfl) ?_
 refine .seq ?_
 refine .region ?_
 refine .q (op_move rfl) trivial rfl ?_
 refine .q (op_assign rfl) trivial rfl ?_
 refine .q (op_assign rfl) trivial rfl ?_
 refine .nil ?_
 show Ev _ _ _ _ _
 refine .ret ?_
 show RetOk _ _ _ _ _ _ _
 exact ret2v rfl (.inl rfl) rfl rfl rfl rfl trivial
set_option maxRecDepth 100000 in
theorem scutp_n (s p : List UInt8) (h : begB p s = false) : Meets Tryd.prog 166 [.str s, .str p] [] (.tup [.str s, .bool false]) [] := by
 refine meets_of_ev (nt := 11) Tryd.func166 rfl rfl (Nat.le_of_ble_eq_true rfl) ?_
 refine .seq ?_
 refine .region ?_
 refine .q (op_assign rfl) trivial rfl ?_
 refine .q (op_assign rfl) trivial rfl ?_
 refine .nil ?_
 show Ev _ _ _ _ _
 refine .seq ?_
 refine .region ?_
 refine .q (op_move rfl) trivial rfl ?_
 refine .q (op_move rfl) trivial rfl ?_
 refine .q (op_call (U := []) [] [] (cutp_n s p h) Tryd.func178 (by kernel_rfl) rfl rfl rfl (⟨⟨_, rfl, rfl, rfl⟩, ⟨_, rfl, rfl, rfl⟩, trivial⟩) (trivial) (trivial) (trivial) rfl) trivial rfl ?_
 refine .q (op_extract rfl rfl) trivial rfl ?_
 refine .q (op_extract rfl rfl) trivial rfl ?_
 refine .q (op_assign rfl) trivial rfl ?_
 refine .q (op_assign rfl) trivial rfl ?_
 refine .nil ?_
 show Ev _ _ _ _ _
 refine .ret ?_
 show RetOk _ _ _ _ _ _ _
 exact ret2v rfl (.inl rfl) rfl rfl rfl rfl trivial
set_option maxRecDepth 100000 in
theorem cuts_y (s : List UInt8) (c : UInt8) (hs : s.length ≤ 9000000000) (h : s.contains c = true) : Meets Tryd.prog 144 [.str s, .str [c]] [] (.tup [.str (cutB c s), .str (s.drop ((cutB c s).length + 1)), .bool true]) [] := by
 refine meets_of_ev (nt := 23) Tryd.func144 rfl rfl (Nat.le_of_ble_eq_true rfl) ?_
 refine .seq ?_
 refine .region ?_
 refine .q (op_assign rfl) trivial rfl ?_
 refine .q (op_assign rfl) trivial rfl ?_
 refine .q (op_assign rfl) trivial rfl ?_
 refine .nil ?_
 show Ev _ _ _ _ _
 refine .seq ?_
 refine .seq ?_
 refine .region ?_
 refine .q (op_move rfl) trivial rfl ?_
 refine .q (op_move rfl) trivial rfl ?_
 refine .q (op_call (U := []) [] [] (sidx_ev s c) Tryd.func163 (by kernel_rfl) rfl rfl rfl (⟨⟨_, rfl, rfl, rfl⟩, ⟨_, rfl, rfl, rfl⟩, trivial⟩) (trivial) (trivial) (trivial) rfl) trivial rfl ?_
 refine .q (op_assign rfl) trivial rfl ?_
 refine .nil ?_
 show Ev _ _ _ _ _
 refine .seq ?_
 refine .region ?_
 refine .q (op_move rfl) trivial rfl ?_
 refine .q (op_cmpI rfl rfl rfl) trivial rfl ?_
 refine .nil ?_
 show Ev _ _ _ _ _
 refine .cond_true rfl ((has_idx c s).trans h) ?_
 refine .seq ?_
 refine .drawn [[], [], [0, 1], [], [], [], [5], [4, 5, 6], [3, 4, 5, 6, 7], [0, 1, 2], [0, 1, 2, 3, 4, 5, 6, 7, 8, 9], [0, 1, 2, 3, 4, 5, 6, 7, 8, 9, 10]] [] [] (by kernel_rfl) (by kernel_rfl) rfl ?_
 show DK _ [0, 1, 2, 3, 4, 5, 6, 7, 8, 9, 10, 11] _ _ _
 refine .q rfl (op_move rfl) trivial ?_
 refine .q rfl (op_move rfl) trivial ?_
 refine .q rfl (ap_slice_str_hi Tryd.underlying9 rfl (bnd_some rfl (l := (cutB c s).length) (idx_cut c s h)) (cutB_le c s)) trivial ?_
 refine .as (.str (cutB c s)) (congrArg AV.str (cut_take c s)) ?_
 refine .q rfl (op_move rfl) trivial ?_
 refine .q rfl (op_move rfl) trivial ?_
 refine .q rfl (op_move rfl) trivial ?_
 refine .q rfl (op_len_str Tryd.underlying9 rfl) trivial ?_
 refine .q rfl (op_addI rfl rfl ⟨by rw [idx_cut c s h]; have := cutB_le c s; simp only [List.length_cons, List.length_nil]; omega, by rw [idx_cut c s h]; have := cutB_le c s; simp only [List.length_cons, List.length_nil]; omega⟩) trivial ?_
 refine .q rfl (ap_slice_str_lo Tryd.underlying9 rfl (bnd_some rfl (l := (cutB c s).length + 1) (by rw [idx_cut c s h]; rfl)) (cut_lt c s h)) trivial ?_
 refine .q rfl (op_assign rfl) trivial ?_
 refine .q rfl (op_assign rfl) trivial ?_
 refine .q rfl (op_assign rfl) trivial ?_
 refine .nil ?_
 show Ev _ _ _ _ _
 refine .ret ?_
 show RetOk _ _ _ _ _ _ _
 exact ret3v rfl (.inl rfl) rfl rfl rfl rfl rfl rfl trivial
set_option maxRecDepth 100000 in
theorem scuts_y (s : List UInt8) (c : UInt8) (hs : s.length ≤ 9000000000) (h : s.contains c = true) : Meets Tryd.prog 111 [.str s, .str [c]] [] (.tup [.str (cutB c s), .str (s.drop ((cutB c s).length + 1)), .bool true]) [] := by
 refine meets_of_ev (nt := 13) Tryd.func111 rfl rfl (Nat.le_of_ble_eq_true rfl) ?_
 refine .seq ?_
 refine .region ?_
 refine .q (op_assign rfl) trivial rfl ?_
 refine .q (op_assign rfl) trivial rfl ?_
 refine .q (op_assign rfl) trivial rfl ?_
 refine .nil ?_
 show Ev _ _ _ _ _
 refine .seq ?_
 refine .region ?_
 refine .q (op_move rfl) trivial rfl ?_
 refine .q (op_move rfl) trivial rfl ?_
 refine .q (op_call (U := []) [] [] (cuts_y s c hs h) Tryd.func144 (by kernel_rfl) rfl rfl rfl (⟨⟨_, rfl, rfl, rfl⟩, ⟨_, rfl, rfl, rfl⟩, trivial⟩) (trivial) (trivial) (trivial) rfl) trivial rfl ?_
 refine .q (op_extract rfl rfl) trivial rfl ?_
 refine .q (op_extract rfl rfl) trivial rfl ?_
 refine .q (op_extract rfl rfl) trivial rfl ?_
 refine .q (op_assign rfl) trivial rfl ?_
 refine .q (op_assign rfl) trivial rfl ?_
 refine .q (op_assign rfl) trivial rfl ?_
 refine .nil ?_
 show Ev _ _ _ _ _
 refine .ret ?_
 show RetOk _ _ _ _ _ _ _
 exact ret3v rfl (.inl rfl) rfl rfl rfl rfl rfl rfl trivial
set_option maxRecDepth 100000 in
theorem cuts_n (s : List UInt8) (c : UInt8) (_hs : s.length ≤ 9000000000) (h : s.contains c = false) : Meets Tryd.prog 144 [.str s, .str [c]] [] (.tup [.str s, .str [], .bool false]) [] := by
 refine meets_of_ev (nt := 23) Tryd.func144 rfl rfl (Nat.le_of_ble_eq_true rfl) ?_
 refine .seq ?_
 refine .region ?_
 refine .q (op_assign rfl) trivial rfl ?_
 refine .q (op_assign rfl) trivial rfl ?_
 refine .q (op_assign rfl) trivial rfl ?_
 refine .nil ?_
 show Ev _ _ _ _ _
 refine .seq ?_
 refine .seq ?_
 refine .region ?_
 refine .q (op_move rfl) trivial rfl ?_
 refine .q (op_move rfl) trivial rfl ?_
 refine .q (op_call (U := []) [] [] (sidx_ev s c) Tryd.func163 (by kernel_rfl) rfl rfl rfl (⟨⟨_, rfl, rfl, rfl⟩, ⟨_, rfl, rfl, rfl⟩, trivial⟩) (trivial) (trivial) (trivial) rfl) trivial rfl ?_
 refine .q (op_assign rfl) trivial rfl ?_
 refine .nil ?_
 show Ev _ _ _ _ _
 refine .seq ?_
 refine .region ?_
 refine .q (op_move rfl) trivial rfl ?_
 refine .q (op_cmpI rfl rfl rfl) trivial rfl ?_
 refine .nil ?_
 show Ev _ _ _ _ _
 refine .cond_false rfl ((has_idx c s).trans h) ?_
 refine .skip ?_
 show Ev _ _ _ _ _
 refine .seq ?_
 refine .region ?_
 refine .q (op_move rfl) trivial rfl ?_
 refine .q (op_assign rfl) trivial rfl ?_
 refine .q (op_assign rfl) trivial rfl ?_
 refine .q (op_assign rfl) trivial rfl ?_
 refine .nil ?_
 show Ev _ _ _ _ _
 refine .ret ?_
 show RetOk _ _ _ _ _ _ _
 exact ret3v rfl (.inl rfl) rfl rfl rfl rfl rfl rfl trivial
set_option maxRecDepth 100000 in
theorem scuts_n (s : List UInt8) (c : UInt8) (hs : s.length ≤ 9000000000) (h : s.contains c = false) : Meets Tryd.prog 111 [.str s, .str [c]] [] (.tup [.str s, .str [], .bool false]) [] := by
 refine meets_of_ev (nt := 13) Tryd.func111 rfl rfl (Nat.le_of_ble_eq_true rfl) ?_
 refine .seq ?_
 refine .region ?_
 refine .q (op_assign rfl) trivial rfl ?_
 refine .q (op_assign rfl) trivial rfl ?_
 refine .q (op_assign rfl) trivial rfl ?_
 refine .nil ?_
 show Ev _ _ _ _ _
 refine .seq ?_
 refine .region ?_
 refine .q (op_move rfl) trivial rfl ?_
 refine .q (op_move rfl) trivial rfl ?_
 refine .q (op_call (U := []) [] [] (cuts_n s c hs h) Tryd.func144 (by kernel_rfl) rfl rfl rfl (⟨⟨_, rfl, rfl, rfl⟩, ⟨_, rfl, rfl, rfl⟩, trivial⟩) (trivial) (trivial) (trivial) rfl) trivial rfl ?_
 refine .q (op_extract rfl rfl) trivial rfl ?_
 refine .q (op_extract rfl rfl) trivial rfl ?_
 refine .q (op_extract rfl rfl) trivial rfl ?_
 refine .q (op_assign rfl) trivial rfl ?_
 refine .q (op_assign rfl) trivial rfl ?_
 refine .q (op_assign rfl) trivial rfl ?_
 refine .nil ?_
 show Ev _ _ _ _ _
 refine .ret ?_
 show RetOk _ _ _ _ _ _ _
 exact ret3v rfl (.inl rfl) rfl rfl rfl rfl rfl rfl trivial
set_option maxRecDepth 100000 in
theorem bequal_ev (l m : List UInt8) (o n e1 e2 : Nat) (h1 : o + n ≤ l.length) : Meets Tryd.prog 164 [.sl 500 o n 1, .sl 501 0 m.length 1] [(500, some ⟨.aggB l, e1, false⟩), (501, some ⟨.aggB m, e2, false⟩)] (.bool ((l.drop o).take n == m)) [] := by
 refine meets_of_ev (nt := 10) Tryd.func164 rfl rfl (Nat.le_of_ble_eq_true rfl) ?_
 refine .seq ?_
 refine .region ?_
 refine .q (op_assign rfl) trivial rfl ?_
 refine .nil ?_
 show Ev _ _ _ _ _
 refine .seq ?_
 refine .region ?_
 refine .q (op_move rfl) trivial rfl ?_
 refine .q (op_bytes_str Tryd.underlying32 Tryd.underlying5 Tryd.underlying9 rfl rfl rfl (h1)) trivial rfl ?_
 refine .q (op_move rfl) trivial rfl ?_
 refine .q (op_bytes_str Tryd.underlying32 Tryd.underlying5 Tryd.underlying9 rfl rfl rfl (by omega)) trivial rfl ?_
 refine .q (op_eqS rfl rfl rfl) trivial rfl ?_
 refine .q (op_assign rfl) trivial rfl ?_
 refine .nil ?_
 show Ev _ _ _ _ _
 refine .ret ?_
 show RetOk _ _ _ _ _ _ _
 exact ret1v rfl (.inl rfl) rfl (congrArg AV.bool (by rw [List.drop_zero, List.take_of_length_le (Nat.le_refl _)])) trivial
theorem last_drop {l : List UInt8} {x : UInt8} (h : 1 ≤ l.length) : ((l.drop (l.length - 1)).take (l.length - (l.length - 1)) == [x]) = decide (l.getLast? = some x) := by
 rw [List.take_of_length_le (by simp), List.getLast?_eq_getElem?]
 have h1 : l.length - 1 < l.length := by omega
 rw [List.drop_eq_getElem_cons h1, List.getElem?_eq_getElem h1, List.drop_of_length_le (by omega)]
 rw [Bool.eq_iff_iff]
 simp
set_option maxRecDepth 100000 in
theorem hsfx_ev (l : List UInt8) (e1 e2 : Nat) (hl : l.length ≤ 9000000000) : Meets Tryd.prog 145 [.sl 500 0 l.length 1, .sl 501 0 1 1] [(500, some ⟨.aggB l, e1, false⟩), (501, some ⟨.aggB [13], e2, false⟩)] (.bool (decide (l.getLast? = some 13))) [] := by
 refine meets_of_ev (nt := 21) Tryd.func145 rfl rfl (Nat.le_of_ble_eq_true rfl) ?_
 refine .seq ?_
 refine .region ?_
 refine .q (op_assign rfl) trivial rfl ?_
 refine .nil ?_
 show Ev _ _ _ _ _
 refine .seq ?_
 refine .region ?_
 refine .q (op_move rfl) trivial rfl ?_
 refine .q (op_len_sl Tryd.underlying32 rfl) trivial rfl ?_
 refine .q (op_move rfl) trivial rfl ?_
 refine .q (op_len_sl Tryd.underlying32 rfl) trivial rfl ?_
 refine .q (op_cmpI rfl rfl rfl) trivial rfl ?_
 refine .q (op_move rfl) trivial rfl ?_
 refine .split (fun hg10 => ?_) (fun hg10 => ?_)
 ·first | replace hg10 := of_decide_eq_true hg10 | replace hg10 := of_decide_eq_false hg10 | replace hg10 := eq_of_beq hg10 | replace hg10 := ne_of_beq_false hg10 | simp only [bne_iff_ne, ne_eq] at hg10 | simp only [bne_eq_false_iff_eq] at hg10
  refine .q (op_move rfl) ⟨_, rfl, rfl⟩ rfl ?_
  refine .q (op_move rfl) ⟨_, rfl, rfl⟩ rfl ?_
  refine .q (op_len_sl Tryd.underlying32 rfl) ⟨_, rfl, rfl⟩ rfl ?_
  refine .q (op_move rfl) ⟨_, rfl, rfl⟩ rfl ?_
  refine .q (op_len_sl Tryd.underlying32 rfl) ⟨_, rfl, rfl⟩ rfl ?_
  refine .q (op_subI rfl rfl ⟨by omega, by omega⟩) ⟨_, rfl, rfl⟩ rfl ?_
  refine .q (op_slice_sl Tryd.underlying32 inf5.sz rfl (bnd_some rfl (l := l.length - 1) (by omega)) rfl (by omega) (by omega)) ⟨_, rfl, rfl⟩ rfl ?_
  refine .q (op_move rfl) ⟨_, rfl, rfl⟩ rfl ?_
  refine .q (op_call (U := []) [(500, 500), (501, 501)] [] (bequal_ev l [13] (0 + (l.length - 1) * 1) (l.length - (l.length - 1)) e1 e2 (by omega)) Tryd.func164 (by kernel_rfl) rfl rfl rfl (⟨⟨_, rfl, rfl, rfl⟩, ⟨_, rfl, rfl, rfl⟩, trivial⟩) (⟨⟨_, _, rfl, rfl, rfl, rfl, (fun h => by cases h), rfl⟩, ⟨_, _, rfl, rfl, rfl, rfl, (fun h => by cases h), rfl⟩, trivial⟩) (trivial) (⟨(fun h => by cases h), (fun h => by cases h), trivial⟩) rfl) ⟨_, rfl, rfl⟩ rfl ?_
  refine .q (op_pick_true rfl rfl rfl) trivial rfl ?_
  refine .q (op_assign rfl) trivial rfl ?_
  refine .nil ?_
  show Ev _ _ _ _ _
  refine .ret ?_
  show RetOk _ _ _ _ _ _ _
  exact ret1v rfl (.inl rfl) rfl (congrArg AV.bool (by first | (rw [Nat.zero_add, Nat.mul_one]; exact last_drop (by omega)) | (symm; apply decide_eq_false; rw [show l = [] from List.eq_nil_of_length_eq_zero (by omega)]; simp))) trivial
 ·first | replace hg10 := of_decide_eq_true hg10 | replace hg10 := of_decide_eq_false hg10 | replace hg10 := eq_of_beq hg10 | replace hg10 := ne_of_beq_false hg10 | simp only [bne_iff_ne, ne_eq] at hg10 | simp only [bne_eq_false_iff_eq] at hg10
  refine .no ⟨_, rfl, rfl⟩ rfl ?_
  refine .no ⟨_, rfl, rfl⟩ rfl ?_
  refine .no ⟨_, rfl, rfl⟩ rfl ?_
  refine .no ⟨_, rfl, rfl⟩ rfl ?_
  refine .no ⟨_, rfl, rfl⟩ rfl ?_
  refine .no ⟨_, rfl, rfl⟩ rfl ?_
  refine .no ⟨_, rfl, rfl⟩ rfl ?_
  refine .no ⟨_, rfl, rfl⟩ rfl ?_
  refine .no ⟨_, rfl, rfl⟩ rfl ?_
  refine .q (op_pick_false rfl rfl rfl) trivial rfl ?_
  refine .q (op_assign rfl) trivial rfl ?_
  refine .nil ?_
  show Ev _ _ _ _ _
  refine .ret ?_
  show RetOk _ _ _ _ _ _ _
  exact ret1v rfl (.inl rfl) rfl (congrArg AV.bool (by first | (rw [Nat.zero_add, Nat.mul_one]; exact last_drop (by omega)) | (symm; apply decide_eq_false; rw [show l = [] from List.eq_nil_of_length_eq_zero (by omega)]; simp))) trivial
theorem crB_y {l : List UInt8} (h : l.getLast? = some 13) : crB l = l.take (l.length - 1) := if_pos h
theorem crB_n {l : List UInt8} (h : ¬ l.getLast? = some 13) : crB l = l := if_neg h
theorem crB_take (l : List UInt8) : l.take (crB l).length = crB l := by
 unfold crB
 split
 ·rw [List.length_take, List.take_eq_take_iff]; omega
 ·rw [List.take_length]
set_option maxRecDepth 100000 in
theorem trimsfx_ev (l : List UInt8) (e1 e2 : Nat) (hl : l.length ≤ 9000000000) : Meets Tryd.prog 112 [.sl 500 0 l.length 1, .sl 501 0 1 1] [(500, some ⟨.aggB l, e1, false⟩), (501, some ⟨.aggB [13], e2, false⟩)] (.sl 500 0 (crB l).length 1) [] := by
 refine meets_of_ev (nt := 16) Tryd.func112 rfl rfl (Nat.le_of_ble_eq_true rfl) ?_
 refine .seq ?_
 refine .region ?_
 refine .q (op_assign rfl) trivial rfl ?_
 refine .nil ?_
 show Ev _ _ _ _ _
 refine .seq ?_
 refine .seq ?_
 refine .region ?_
 refine .q (op_move rfl) trivial rfl ?_
 refine .q (op_move rfl) trivial rfl ?_
 refine .q (op_call (U := []) [(500, 500), (501, 501)] [] (hsfx_ev l e1 e2 hl) Tryd.func145 (by kernel_rfl) rfl rfl rfl (⟨⟨_, rfl, rfl, rfl⟩, ⟨_, rfl, rfl, rfl⟩, trivial⟩) (⟨⟨_, _, rfl, rfl, rfl, rfl, (fun h => by cases h), rfl⟩, ⟨_, _, rfl, rfl, rfl, rfl, (fun h => by cases h), rfl⟩, trivial⟩) (trivial) (⟨(fun h => by cases h), (fun h => by cases h), trivial⟩) rfl) trivial rfl ?_
 refine .nil ?_
 show Ev _ _ _ _ _
 refine .cond rfl (fun hc7 => ?_) (fun hc7 => ?_)
 ·first | replace hc7 := of_decide_eq_true hc7 | replace hc7 := of_decide_eq_false hc7 | replace hc7 := eq_of_beq hc7 | replace hc7 := ne_of_beq_false hc7 | simp only [bne_iff_ne, ne_eq] at hc7 | simp only [bne_eq_false_iff_eq] at hc7
  refine .seq ?_
  refine .region ?_
  refine .q (op_move rfl) trivial rfl ?_
  refine .q (op_move rfl) trivial rfl ?_
  refine .q (op_len_sl Tryd.underlying32 rfl) trivial rfl ?_
  refine .q (op_move rfl) trivial rfl ?_
  refine .q (op_len_sl Tryd.underlying32 rfl) trivial rfl ?_
  refine .q (op_subI rfl rfl ⟨by omega, by omega⟩) trivial rfl ?_
  refine .q (ap_slice_sl_hi Tryd.underlying32 inf5.sz rfl (bnd_some rfl (l := l.length - 1) (by have : 0 < l.length := List.length_pos_iff.2 (fun e => by rw [e] at hc7; simp at hc7); omega)) (by omega)) trivial rfl ?_
  refine .q (op_assign rfl) trivial rfl ?_
  refine .nil ?_
  show Ev _ _ _ _ _
  refine .ret ?_
  show RetOk _ _ _ _ _ _ _
  first
   | exact ret1v rfl (.inl rfl) rfl (by show AV.sl 500 0 (l.length - 1) 1 = AV.sl 500 0 (crB l).length 1; rw [crB_y hc7]; simp) trivial
   | exact ret1v rfl (.inl rfl) rfl (by show AV.sl 500 0 l.length 1 = AV.sl 500 0 (crB l).length 1; rw [crB_n hc7]) trivial
 ·first | replace hc7 := of_decide_eq_true hc7 | replace hc7 := of_decide_eq_false hc7 | replace hc7 := eq_of_beq hc7 | replace hc7 := ne_of_beq_false hc7 | simp only [bne_iff_ne, ne_eq] at hc7 | simp only [bne_eq_false_iff_eq] at hc7
  refine .skip ?_
  show Ev _ _ _ _ _
  refine .seq ?_
  refine .region ?_
  refine .q (op_move rfl) trivial rfl ?_
  refine .q (op_assign rfl) trivial rfl ?_
  refine .nil ?_
  show Ev _ _ _ _ _
  refine .ret ?_
  show RetOk _ _ _ _ _ _ _
  first
   | exact ret1v rfl (.inl rfl) rfl (by show AV.sl 500 0 (l.length - 1) 1 = AV.sl 500 0 (crB l).length 1; rw [crB_y hc7]; simp) trivial
   | exact ret1v rfl (.inl rfl) rfl (by show AV.sl 500 0 l.length 1 = AV.sl 500 0 (crB l).length 1; rw [crB_n hc7]) trivial
end Go.Proofs.YteefpaiefphdpaaDoor
namespace Go.Proofs.YteefpaiefphdpaaDoor
open Go.RowKit
theorem sw_a {c : UInt8} (h : c ≤ 32) : swOk c = false := by simp [swOk, h]
theorem sw_b {c : UInt8} (h : 126 < c) : swOk c = false := by simp [swOk, h]
theorem sw_c {c : UInt8} (h : c = 45) : swOk c = false := by simp [swOk, h]
theorem sw_ok {c : UInt8} (h1 : ¬ c ≤ 32) (h2 : ¬ 126 < c) (h3 : ¬ c = 45) : swOk c = true := by simp [swOk, h1, h2, h3]
theorem soft_bad {s : List UInt8} {j : Nat} (hj : j < s.length) (h : swOk (s.getD j 0) = false) : softOk s = false := by
  have : s.all swOk = false := by
    rw [List.all_eq_false]
    exact ⟨s.getD j 0, by rw [List.getD_eq_getElem?_getD, List.getElem?_eq_getElem hj]; exact List.getElem_mem hj, by rw [h]; simp⟩
  simp [softOk, this]
theorem soft_step {s : List UInt8} {j : Nat} (hj : j < s.length) (hq : (s.take j).all swOk = true) (h : swOk (s.getD j 0) = true) : (s.take (j + 1)).all swOk = true := by
  rw [List.take_succ_eq_append_getElem hj, List.all_append, hq]
  rw [List.getD_eq_getElem?_getD, List.getElem?_eq_getElem hj] at h
  simpa using h
theorem soft_all {s : List UInt8} (h0 : ¬ s = []) (h1 : s.length ≤ 64) (h : s.all swOk = true) : softOk s = true := by simp [softOk, h0, h1, h]
set_option maxRecDepth 100000 in
theorem issoft_ev (s : List UInt8) (hs : s.length ≤ 9000000000) : Meets Tryd.prog 72 [.str s] [] (.bool (softOk s)) [] := by
 refine meets_of_ev (nt := 33) Tryd.func72 rfl rfl (Nat.le_of_ble_eq_true rfl) ?_
 refine .seq ?_
 refine .region ?_
 refine .q (op_assign rfl) trivial rfl ?_
 refine .nil ?_
 show Ev _ _ _ _ _
 refine .seq ?_
 refine .seq ?_
 refine .region ?_
 refine .q (op_move rfl) trivial rfl ?_
 refine .q (op_eqS rfl rfl rfl) trivial rfl ?_
 refine .q (op_move rfl) trivial rfl ?_
 refine .split (fun hg6 => ?_) (fun hg6 => ?_)
 ·first | replace hg6 := of_decide_eq_true hg6 | replace hg6 := of_decide_eq_false hg6 | replace hg6 := eq_of_beq hg6 | replace hg6 := ne_of_beq_false hg6 | simp only [bne_iff_ne, ne_eq] at hg6 | simp only [bne_eq_false_iff_eq] at hg6
  refine .no ⟨_, rfl, rfl⟩ rfl ?_
  refine .no ⟨_, rfl, rfl⟩ rfl ?_
  refine .no ⟨_, rfl, rfl⟩ rfl ?_
  refine .q (op_pick_true rfl rfl rfl) trivial rfl ?_
  refine .nil ?_
  show Ev _ _ _ _ _
  refine .cond_true rfl rfl ?_
  refine .seq ?_
  refine .region ?_
  refine .q (op_assign rfl) trivial rfl ?_
  refine .nil ?_
  show Ev _ _ _ _ _
  refine .ret ?_
  show RetOk _ _ _ _ _ _ _
  exact ret1v rfl (.inl rfl) rfl (congrArg AV.bool (by first | exact (soft_bad (j := j) (by omega) (by first | exact sw_a hg20 | exact sw_b hg26 | exact sw_c hc31)).symm | exact (soft_all hg6 (by omega) (by rwa [List.take_of_length_le (by omega)] at hq)).symm | (subst hg6; rfl) | (simp [softOk]; omega))) trivial
 ·first | replace hg6 := of_decide_eq_true hg6 | replace hg6 := of_decide_eq_false hg6 | replace hg6 := eq_of_beq hg6 | replace hg6 := ne_of_beq_false hg6 | simp only [bne_iff_ne, ne_eq] at hg6 | simp only [bne_eq_false_iff_eq] at hg6
  refine .q (op_move rfl) ⟨_, rfl, rfl⟩ rfl ?_
  refine .q (op_len_str Tryd.underlying9 rfl) ⟨_, rfl, rfl⟩ rfl ?_
  refine .q (op_cmpI rfl rfl rfl) ⟨_, rfl, rfl⟩ rfl ?_
  refine .q (op_pick_false rfl rfl rfl) trivial rfl ?_
  refine .nil ?_
  show Ev _ _ _ _ _
  refine .cond rfl (fun hc10 => ?_) (fun hc10 => ?_)
  ·first | replace hc10 := of_decide_eq_true hc10 | replace hc10 := of_decide_eq_false hc10 | replace hc10 := eq_of_beq hc10 | replace hc10 := ne_of_beq_false hc10 | simp only [bne_iff_ne, ne_eq] at hc10 | simp only [bne_eq_false_iff_eq] at hc10
   refine .seq ?_
   refine .region ?_
   refine .q (op_assign rfl) trivial rfl ?_
   refine .nil ?_
   show Ev _ _ _ _ _
   refine .ret ?_
   show RetOk _ _ _ _ _ _ _
   exact ret1v rfl (.inl rfl) rfl (congrArg AV.bool (by first | exact (soft_bad (j := j) (by omega) (by first | exact sw_a hg20 | exact sw_b hg26 | exact sw_c hc31)).symm | exact (soft_all hg6 (by omega) (by rwa [List.take_of_length_le (by omega)] at hq)).symm | (subst hg6; rfl) | (simp [softOk]; omega))) trivial
  ·first | replace hc10 := of_decide_eq_true hc10 | replace hc10 := of_decide_eq_false hc10 | replace hc10 := eq_of_beq hc10 | replace hc10 := ne_of_beq_false hc10 | simp only [bne_iff_ne, ne_eq] at hc10 | simp only [bne_eq_false_iff_eq] at hc10
   refine .skip ?_
   show Ev _ _ _ _ _
   refine .seq ?_
   refine .seq ?_
   refine .region ?_
   refine .q (op_move rfl) trivial rfl ?_
   refine .q (op_len_str Tryd.underlying9 rfl) trivial rfl ?_
   refine .q (op_move rfl) trivial rfl ?_
   refine .nil ?_
   show Ev _ _ _ _ _
   refine .block ?_
   refine Ev.loop (ι := { j : Nat // j ≤ s.length ∧ (s.take j).all swOk = true }) (fun q => ⟨[(0, .str s), (12, .i64 (s.length : Int)), (13, .i64 ((q.1 : Nat) : Int))], [], 1000⟩) (fun q => s.length - q.1) ⟨0, Nat.zero_le _, rfl⟩ (StLe.mk [] rfl rfl ⟨⟨_, rfl, by first | rfl | (simp only [AV.ren]; congr 1; omega), rfl⟩, ⟨_, rfl, by first | rfl | (simp only [AV.ren]; congr 1; omega), rfl⟩, ⟨_, rfl, by first | rfl | (simp only [AV.ren]; congr 1; omega), rfl⟩, trivial⟩ trivial) ?_
   rintro ⟨j, hj, hq⟩
   try dsimp only
   refine .seq ?_
   refine .region ?_
   refine .q (op_cmpI rfl rfl rfl) trivial rfl ?_
   refine .nil ?_
   show Ev _ _ _ _ _
   refine .seq ?_
   refine .cond rfl (fun hc14 => ?_) (fun hc14 => ?_)
   ·first | replace hc14 := of_decide_eq_true hc14 | replace hc14 := of_decide_eq_false hc14 | replace hc14 := eq_of_beq hc14 | replace hc14 := ne_of_beq_false hc14 | simp only [bne_iff_ne, ne_eq] at hc14 | simp only [bne_eq_false_iff_eq] at hc14
    refine .skip ?_
    show Ev _ _ _ _ _
    refine .seq ?_
    refine .block ?_
    refine .seq ?_
    refine .region ?_
    refine .q (op_move rfl) trivial rfl ?_
    refine .q (op_assign rfl) trivial rfl ?_
    refine .nil ?_
    show Ev _ _ _ _ _
    refine .seq ?_
    refine .region ?_
    refine .q (op_move rfl) trivial rfl ?_
    refine .q (op_move rfl) trivial rfl ?_
    refine .q (op_index_str Tryd.underlying9 rfl rfl rfl (by omega)) trivial rfl ?_
    refine .q (op_bin8 rfl rfl rfl) trivial rfl ?_
    refine .q (op_move rfl) trivial rfl ?_
    refine .split (fun hg20 => ?_) (fun hg20 => ?_)
    ·first | replace hg20 := of_decide_eq_true hg20 | replace hg20 := of_decide_eq_false hg20 | replace hg20 := eq_of_beq hg20 | replace hg20 := ne_of_beq_false hg20 | simp only [bne_iff_ne, ne_eq] at hg20 | simp only [bne_eq_false_iff_eq] at hg20
     refine .no ⟨_, rfl, rfl⟩ rfl ?_
     refine .no ⟨_, rfl, rfl⟩ rfl ?_
     refine .no ⟨_, rfl, rfl⟩ rfl ?_
     refine .no ⟨_, rfl, rfl⟩ rfl ?_
     refine .q (op_pick_true rfl rfl rfl) trivial rfl ?_
     refine .q (op_move rfl) trivial rfl ?_
     refine .no ⟨_, rfl, rfl⟩ rfl ?_
     refine .no ⟨_, rfl, rfl⟩ rfl ?_
     refine .no ⟨_, rfl, rfl⟩ rfl ?_
     refine .no ⟨_, rfl, rfl⟩ rfl ?_
     refine .q (op_pick_true rfl rfl rfl) trivial rfl ?_
     refine .nil ?_
     show Ev _ _ _ _ _
     refine .cond_true rfl rfl ?_
     refine .seq ?_
     refine .region ?_
     refine .q (op_assign rfl) trivial rfl ?_
     refine .nil ?_
     show Ev _ _ _ _ _
     refine .ret ?_
     show RetOk _ _ _ _ _ _ _
     exact ret1v rfl (.inl rfl) rfl (congrArg AV.bool (by first | exact (soft_bad (j := j) (by omega) (by first | exact sw_a hg20 | exact sw_b hg26 | exact sw_c hc31)).symm | exact (soft_all hg6 (by omega) (by rwa [List.take_of_length_le (by omega)] at hq)).symm | (subst hg6; rfl) | (simp [softOk]; omega))) trivial
    ·first | replace hg20 := of_decide_eq_true hg20 | replace hg20 := of_decide_eq_false hg20 | replace hg20 := eq_of_beq hg20 | replace hg20 := ne_of_beq_false hg20 | simp only [bne_iff_ne, ne_eq] at hg20 | simp only [bne_eq_false_iff_eq] at hg20
     refine .q (op_move rfl) ⟨_, rfl, rfl⟩ rfl ?_
     refine .q (op_move rfl) ⟨_, rfl, rfl⟩ rfl ?_
     refine .q (op_index_str Tryd.underlying9 rfl rfl rfl (by omega)) ⟨_, rfl, rfl⟩ rfl ?_
     refine .q (op_bin8 rfl rfl rfl) ⟨_, rfl, rfl⟩ rfl ?_
     refine .q (op_pick_false rfl rfl rfl) trivial rfl ?_
     refine .q (op_move rfl) trivial rfl ?_
     refine .split (fun hg26 => ?_) (fun hg26 => ?_)
     ·first | replace hg26 := of_decide_eq_true hg26 | replace hg26 := of_decide_eq_false hg26 | replace hg26 := eq_of_beq hg26 | replace hg26 := ne_of_beq_false hg26 | simp only [bne_iff_ne, ne_eq] at hg26 | simp only [bne_eq_false_iff_eq] at hg26
      refine .no ⟨_, rfl, rfl⟩ rfl ?_
      refine .no ⟨_, rfl, rfl⟩ rfl ?_
      refine .no ⟨_, rfl, rfl⟩ rfl ?_
      refine .no ⟨_, rfl, rfl⟩ rfl ?_
      refine .q (op_pick_true rfl rfl rfl) trivial rfl ?_
      refine .nil ?_
      show Ev _ _ _ _ _
      refine .cond_true rfl rfl ?_
      refine .seq ?_
      refine .region ?_
      refine .q (op_assign rfl) trivial rfl ?_
      refine .nil ?_
      show Ev _ _ _ _ _
      refine .ret ?_
      show RetOk _ _ _ _ _ _ _
      exact ret1v rfl (.inl rfl) rfl (congrArg AV.bool (by first | exact (soft_bad (j := j) (by omega) (by first | exact sw_a hg20 | exact sw_b hg26 | exact sw_c hc31)).symm | exact (soft_all hg6 (by omega) (by rwa [List.take_of_length_le (by omega)] at hq)).symm | (subst hg6; rfl) | (simp [softOk]; omega))) trivial
     ·first | replace hg26 := of_decide_eq_true hg26 | replace hg26 := of_decide_eq_false hg26 | replace hg26 := eq_of_beq hg26 | replace hg26 := ne_of_beq_false hg26 | simp only [bne_iff_ne, ne_eq] at hg26 | simp only [bne_eq_false_iff_eq] at hg26
      refine .q (op_move rfl) ⟨_, rfl, rfl⟩ rfl ?_
      refine .q (op_move rfl) ⟨_, rfl, rfl⟩ rfl ?_
      refine .q (op_index_str Tryd.underlying9 rfl rfl rfl (by omega)) ⟨_, rfl, rfl⟩ rfl ?_
      refine .q (op_bin8 rfl rfl rfl) ⟨_, rfl, rfl⟩ rfl ?_
      refine .q (op_pick_false rfl rfl rfl) trivial rfl ?_
      refine .nil ?_
      show Ev _ _ _ _ _
      refine .cond rfl (fun hc31 => ?_) (fun hc31 => ?_)
      ·first | replace hc31 := of_decide_eq_true hc31 | replace hc31 := of_decide_eq_false hc31 | replace hc31 := eq_of_beq hc31 | replace hc31 := ne_of_beq_false hc31 | simp only [bne_iff_ne, ne_eq] at hc31 | simp only [bne_eq_false_iff_eq] at hc31
       refine .seq ?_
       refine .region ?_
       refine .q (op_assign rfl) trivial rfl ?_
       refine .nil ?_
       show Ev _ _ _ _ _
       refine .ret ?_
       show RetOk _ _ _ _ _ _ _
       exact ret1v rfl (.inl rfl) rfl (congrArg AV.bool (by first | exact (soft_bad (j := j) (by omega) (by first | exact sw_a hg20 | exact sw_b hg26 | exact sw_c hc31)).symm | exact (soft_all hg6 (by omega) (by rwa [List.take_of_length_le (by omega)] at hq)).symm | (subst hg6; rfl) | (simp [softOk]; omega))) trivial
      ·first | replace hc31 := of_decide_eq_true hc31 | replace hc31 := of_decide_eq_false hc31 | replace hc31 := eq_of_beq hc31 | replace hc31 := ne_of_beq_false hc31 | simp only [bne_iff_ne, ne_eq] at hc31 | simp only [bne_eq_false_iff_eq] at hc31
       refine .skip ?_
       show Ev _ _ _ _ _
       refine .region ?_
       refine .q (op_addI rfl rfl ⟨by first | omega | (simp only [AV.len]; omega) | (simp only [AV.len, List.length_set]; omega) | assumption | (simp [AV.len]; done), by first | omega | (simp only [AV.len]; omega) | (simp only [AV.len, List.length_set]; omega) | assumption | (simp [AV.len]; done)⟩) trivial rfl ?_
       refine .q (op_move rfl) trivial rfl ?_
       refine .nil ?_
       exact ⟨⟨j + 1, by omega, soft_step (by omega) hq (sw_ok hg20 hg26 hc31)⟩, by (try dsimp only); omega, StLe.mk [] rfl rfl ⟨⟨_, rfl, by first | rfl | (simp only [AV.ren]; congr 1; omega), rfl⟩, ⟨_, rfl, by first | rfl | (simp only [AV.ren]; congr 1; omega), rfl⟩, ⟨_, rfl, by first | rfl | (simp only [AV.ren]; congr 1; omega), rfl⟩, trivial⟩ trivial⟩
   ·first | replace hc14 := of_decide_eq_true hc14 | replace hc14 := of_decide_eq_false hc14 | replace hc14 := eq_of_beq hc14 | replace hc14 := ne_of_beq_false hc14 | simp only [bne_iff_ne, ne_eq] at hc14 | simp only [bne_eq_false_iff_eq] at hc14
    refine .exit ?_
    show Ev _ _ _ _ _
    refine .seq ?_
    refine .region ?_
    refine .q (op_assign rfl) trivial rfl ?_
    refine .nil ?_
    show Ev _ _ _ _ _
    refine .ret ?_
    show RetOk _ _ _ _ _ _ _
    exact ret1v rfl (.inl rfl) rfl (congrArg AV.bool (by first | exact (soft_bad (j := j) (by omega) (by first | exact sw_a hg20 | exact sw_b hg26 | exact sw_c hc31)).symm | exact (soft_all hg6 (by omega) (by rwa [List.take_of_length_le (by omega)] at hq)).symm | (subst hg6; rfl) | (simp [softOk]; omega))) trivial
theorem rest_2 {s : List UInt8} (h : begB ssh2 s = true) : restB s = s.drop 8 := if_pos h
theorem rest_1 {s : List UInt8} (h2 : begB ssh2 s = false) (h : begB ssh1 s = true) : restB s = s.drop 9 := by unfold restB; rw [if_neg (by rw [h2]; simp), if_pos h]
theorem rest_0 {s : List UInt8} (h2 : begB ssh2 s = false) (h : begB ssh1 s = false) : restB s = s := by unfold restB; rw [if_neg (by rw [h2]; simp), if_neg (by rw [h]; simp)]
theorem restB_le (s : List UInt8) : (restB s).length ≤ s.length := by
 unfold restB
 split
 ·simp
 ·split <;> simp
set_option maxRecDepth 100000 in
theorem isver_2y (s : List UInt8) (hs : s.length ≤ 9000000000) (h2 : begB ssh2 s = true) (hsp : ((s.drop 8)).contains 32 = true) : Meets Tryd.prog 148 [.str s] [] (.bool (verB s)) [] := by
 refine meets_of_ev (nt := 31) Tryd.func148 rfl rfl (Nat.le_of_ble_eq_true rfl) ?_
 refine .seq ?_
 refine .region ?_
 refine .q (op_assign rfl) trivial rfl ?_
 refine .nil ?_
 show Ev _ _ _ _ _
 refine .seq ?_
 refine .region ?_
 refine .q (op_move rfl) trivial rfl ?_
 refine .q (op_call (U := []) [] [] (scutp_y s ssh2 h2) Tryd.func166 (by kernel_rfl) rfl rfl rfl (⟨⟨_, rfl, rfl, rfl⟩, ⟨_, rfl, rfl, rfl⟩, trivial⟩) (trivial) (trivial) (trivial) rfl) trivial rfl ?_
 refine .q (op_move rfl) trivial rfl ?_
 refine .q (op_extract rfl rfl) trivial rfl ?_
 refine .q (op_extract rfl rfl) trivial rfl ?_
 refine .q (op_assign rfl) trivial rfl ?_
 refine .q (op_assign rfl) trivial rfl ?_
 refine .nil ?_
 show Ev _ _ _ _ _
 refine .seq ?_
 refine .seq ?_
 refine .region ?_
 refine .q (op_move rfl) trivial rfl ?_
 refine .q (op_notB rfl) trivial rfl ?_
 refine .nil ?_
 show Ev _ _ _ _ _
 refine .cond_false rfl (rfl) ?_
 refine .skip ?_
 show Ev _ _ _ _ _
 refine .seq ?_
 refine .region ?_
 refine .q (op_move rfl) trivial rfl ?_
 refine .q (op_call (U := []) [] [] (scuts_y (s.drop 8) 32 (by first | omega | (simp only [List.length_drop]; omega)) hsp) Tryd.func111 (by kernel_rfl) rfl rfl rfl (⟨⟨_, rfl, rfl, rfl⟩, ⟨_, rfl, rfl, rfl⟩, trivial⟩) (trivial) (trivial) (trivial) rfl) trivial rfl ?_
 refine .q (op_move rfl) trivial rfl ?_
 refine .q (op_extract rfl rfl) trivial rfl ?_
 refine .q (op_extract rfl rfl) trivial rfl ?_
 refine .q (op_extract rfl rfl) trivial rfl ?_
 refine .q (op_assign rfl) trivial rfl ?_
 refine .q (op_assign rfl) trivial rfl ?_
 refine .q (op_assign rfl) trivial rfl ?_
 refine .nil ?_
 show Ev _ _ _ _ _
 refine .seq ?_
 refine .region ?_
 refine .q (op_move rfl) trivial rfl ?_
 refine .q (op_move rfl) trivial rfl ?_
 refine .know (b' := true) (rfl) ?_
 refine .q (op_move rfl) ⟨_, rfl, rfl⟩ rfl ?_
 refine .q (op_call (U := []) [] [] (issoft_ev (cutB 32 (s.drop 8)) (by first | omega | (have := cutB_le 32 (s.drop 8); simp only [List.length_drop] at *; omega) | (simp only [List.length_drop]; omega))) Tryd.func72 (by kernel_rfl) rfl rfl rfl (⟨⟨_, rfl, rfl, rfl⟩, trivial⟩) (trivial) (trivial) (trivial) rfl) ⟨_, rfl, rfl⟩ rfl ?_
 refine .q (op_pick_true rfl rfl rfl) trivial rfl ?_
 refine .q (op_assign rfl) trivial rfl ?_
 refine .nil ?_
 show Ev _ _ _ _ _
 refine .ret ?_
 show RetOk _ _ _ _ _ _ _
 exact ret1v rfl (.inl rfl) rfl (congrArg AV.bool (by unfold verB; rw [rest_2 h2]; simp only [h2, Bool.true_or, Bool.true_and]; try rfl)) trivial
set_option maxRecDepth 100000 in
theorem isver_2n (s : List UInt8) (hs : s.length ≤ 9000000000) (h2 : begB ssh2 s = true) (hsp : ((s.drop 8)).contains 32 = false) : Meets Tryd.prog 148 [.str s] [] (.bool (verB s)) [] := by
 refine meets_of_ev (nt := 31) Tryd.func148 rfl rfl (Nat.le_of_ble_eq_true rfl) ?_
 refine .seq ?_
 refine .region ?_
 refine .q (op_assign rfl) trivial rfl ?_
 refine .nil ?_
 show Ev _ _ _ _ _
 refine .seq ?_
 refine .region ?_
 refine .q (op_move rfl) trivial rfl ?_
 refine .q (op_call (U := []) [] [] (scutp_y s ssh2 h2) Tryd.func166 (by kernel_rfl) rfl rfl rfl (⟨⟨_, rfl, rfl, rfl⟩, ⟨_, rfl, rfl, rfl⟩, trivial⟩) (trivial) (trivial) (trivial) rfl) trivial rfl ?_
 refine .q (op_move rfl) trivial rfl ?_
 refine .q (op_extract rfl rfl) trivial rfl ?_
 refine .q (op_extract rfl rfl) trivial rfl ?_
 refine .q (op_assign rfl) trivial rfl ?_
 refine .q (op_assign rfl) trivial rfl ?_
 refine .nil ?_
 show Ev _ _ _ _ _
 refine .seq ?_
 refine .seq ?_
 refine .region ?_
 refine .q (op_move rfl) trivial rfl ?_
 refine .q (op_notB rfl) trivial rfl ?_
 refine .nil ?_
 show Ev _ _ _ _ _
 refine .cond_false rfl (rfl) ?_
 refine .skip ?_
 show Ev _ _ _ _ _
 refine .seq ?_
 refine .region ?_
 refine .q (op_move rfl) trivial rfl ?_
 refine .q (op_call (U := []) [] [] (scuts_n (s.drop 8) 32 (by first | omega | (simp only [List.length_drop]; omega)) hsp) Tryd.func111 (by kernel_rfl) rfl rfl rfl (⟨⟨_, rfl, rfl, rfl⟩, ⟨_, rfl, rfl, rfl⟩, trivial⟩) (trivial) (trivial) (trivial) rfl) trivial rfl ?_
 refine .q (op_move rfl) trivial rfl ?_
 refine .q (op_extract rfl rfl) trivial rfl ?_
 refine .q (op_extract rfl rfl) trivial rfl ?_
 refine .q (op_extract rfl rfl) trivial rfl ?_
 refine .q (op_assign rfl) trivial rfl ?_
 refine .q (op_assign rfl) trivial rfl ?_
 refine .q (op_assign rfl) trivial rfl ?_
 refine .nil ?_
 show Ev _ _ _ _ _
 refine .seq ?_
 refine .region ?_
 refine .q (op_move rfl) trivial rfl ?_
 refine .q (op_move rfl) trivial rfl ?_
 refine .know (b' := true) (rfl) ?_
 refine .q (op_move rfl) ⟨_, rfl, rfl⟩ rfl ?_
 refine .q (op_call (U := []) [] [] (issoft_ev ((s.drop 8)) (by first | omega | (have := cutB_le 32 (s.drop 8); simp only [List.length_drop] at *; omega) | (simp only [List.length_drop]; omega))) Tryd.func72 (by kernel_rfl) rfl rfl rfl (⟨⟨_, rfl, rfl, rfl⟩, trivial⟩) (trivial) (trivial) (trivial) rfl) ⟨_, rfl, rfl⟩ rfl ?_
 refine .q (op_pick_true rfl rfl rfl) trivial rfl ?_
 refine .q (op_assign rfl) trivial rfl ?_
 refine .nil ?_
 show Ev _ _ _ _ _
 refine .ret ?_
 show RetOk _ _ _ _ _ _ _
 exact ret1v rfl (.inl rfl) rfl (congrArg AV.bool (by unfold verB; rw [rest_2 h2]; simp only [h2, Bool.true_or, Bool.true_and]; rw [cut_none 32 _ hsp])) trivial
set_option maxRecDepth 100000 in
theorem isver_1y (s : List UInt8) (hs : s.length ≤ 9000000000) (h2 : begB ssh2 s = false) (h1 : begB ssh1 s = true) (hsp : ((s.drop 9)).contains 32 = true) : Meets Tryd.prog 148 [.str s] [] (.bool (verB s)) [] := by
 refine meets_of_ev (nt := 31) Tryd.func148 rfl rfl (Nat.le_of_ble_eq_true rfl) ?_
 refine .seq ?_
 refine .region ?_
 refine .q (op_assign rfl) trivial rfl ?_
 refine .nil ?_
 show Ev _ _ _ _ _
 refine .seq ?_
 refine .region ?_
 refine .q (op_move rfl) trivial rfl ?_
 refine .q (op_call (U := []) [] [] (scutp_n s ssh2 h2) Tryd.func166 (by kernel_rfl) rfl rfl rfl (⟨⟨_, rfl, rfl, rfl⟩, ⟨_, rfl, rfl, rfl⟩, trivial⟩) (trivial) (trivial) (trivial) rfl) trivial rfl ?_
 refine .q (op_move rfl) trivial rfl ?_
 refine .q (op_extract rfl rfl) trivial rfl ?_
 refine .q (op_extract rfl rfl) trivial rfl ?_
 refine .q (op_assign rfl) trivial rfl ?_
 refine .q (op_assign rfl) trivial rfl ?_
 refine .nil ?_
 show Ev _ _ _ _ _
 refine .seq ?_
 refine .seq ?_
 refine .region ?_
 refine .q (op_move rfl) trivial rfl ?_
 refine .q (op_notB rfl) trivial rfl ?_
 refine .nil ?_
 show Ev _ _ _ _ _
 refine .cond_true rfl (rfl) ?_
 refine .region ?_
 refine .q (op_move rfl) trivial rfl ?_
 refine .q (op_call (U := []) [] [] (scutp_y s ssh1 h1) Tryd.func166 (by kernel_rfl) rfl rfl rfl (⟨⟨_, rfl, rfl, rfl⟩, ⟨_, rfl, rfl, rfl⟩, trivial⟩) (trivial) (trivial) (trivial) rfl) trivial rfl ?_
 refine .q (op_move rfl) trivial rfl ?_
 refine .q (op_extract rfl rfl) trivial rfl ?_
 refine .q (op_extract rfl rfl) trivial rfl ?_
 refine .q (op_assign rfl) trivial rfl ?_
 refine .q (op_assign rfl) trivial rfl ?_
 refine .nil ?_
 show Ev _ _ _ _ _
 refine .seq ?_
 refine .region ?_
 refine .q (op_move rfl) trivial rfl ?_
 refine .q (op_call (U := []) [] [] (scuts_y (s.drop 9) 32 (by first | omega | (simp only [List.length_drop]; omega)) hsp) Tryd.func111 (by kernel_rfl) rfl rfl rfl (⟨⟨_, rfl, rfl, rfl⟩, ⟨_, rfl, rfl, rfl⟩, trivial⟩) (trivial) (trivial) (trivial) rfl) trivial rfl ?_
 refine .q (op_move rfl) trivial rfl ?_
 refine .q (op_extract rfl rfl) trivial rfl ?_
 refine .q (op_extract rfl rfl) trivial rfl ?_
 refine .q (op_extract rfl rfl) trivial rfl ?_
 refine .q (op_assign rfl) trivial rfl ?_
 refine .q (op_assign rfl) trivial rfl ?_
 refine .q (op_assign rfl) trivial rfl ?_
 refine .nil ?_
 show Ev _ _ _ _ _
 refine .seq ?_
 refine .region ?_
 refine .q (op_move rfl) trivial rfl ?_
 refine .q (op_move rfl) trivial rfl ?_
 refine .know (b' := true) (rfl) ?_
 refine .q (op_move rfl) ⟨_, rfl, rfl⟩ rfl ?_
 refine .q (op_call (U := []) [] [] (issoft_ev (cutB 32 (s.drop 9)) (by first | omega | (have := cutB_le 32 (s.drop 9); simp only [List.length_drop] at *; omega) | (simp only [List.length_drop]; omega))) Tryd.func72 (by kernel_rfl) rfl rfl rfl (⟨⟨_, rfl, rfl, rfl⟩, trivial⟩) (trivial) (trivial) (trivial) rfl) ⟨_, rfl, rfl⟩ rfl ?_
 refine .q (op_pick_true rfl rfl rfl) trivial rfl ?_
 refine .q (op_assign rfl) trivial rfl ?_
 refine .nil ?_
 show Ev _ _ _ _ _
 refine .ret ?_
 show RetOk _ _ _ _ _ _ _
 exact ret1v rfl (.inl rfl) rfl (congrArg AV.bool (by unfold verB; rw [rest_1 h2 h1]; simp only [h2, h1, Bool.or_true, Bool.true_and]; try rfl)) trivial
set_option maxRecDepth 100000 in
theorem isver_1n (s : List UInt8) (hs : s.length ≤ 9000000000) (h2 : begB ssh2 s = false) (h1 : begB ssh1 s = true) (hsp : ((s.drop 9)).contains 32 = false) : Meets Tryd.prog 148 [.str s] [] (.bool (verB s)) [] := by
 refine meets_of_ev (nt := 31) Tryd.func148 rfl rfl (Nat.le_of_ble_eq_true rfl) ?_
 refine .seq ?_
 refine .region ?_
 refine .q (op_assign rfl) trivial rfl ?_
 refine .nil ?_
 show Ev _ _ _ _ _
 refine .seq ?_
 refine .region ?_
 refine .q (op_move rfl) trivial rfl ?_
 refine .q (op_call (U := []) [] [] (scutp_n s ssh2 h2) Tryd.func166 (by kernel_rfl) rfl rfl rfl (⟨⟨_, rfl, rfl, rfl⟩, ⟨_, rfl, rfl, rfl⟩, trivial⟩) (trivial) (trivial) (trivial) rfl) trivial rfl ?_
 refine .q (op_move rfl) trivial rfl ?_
 refine .q (op_extract rfl rfl) trivial rfl ?_
 refine .q (op_extract rfl rfl) trivial rfl ?_
 refine .q (op_assign rfl) trivial rfl ?_
 refine .q (op_assign rfl) trivial rfl ?_
 refine .nil ?_
 show Ev _ _ _ _ _
 refine .seq ?_
 refine .seq ?_
 refine .region ?_
 refine .q (op_move rfl) trivial rfl ?_
 refine .q (op_notB rfl) trivial rfl ?_
 refine .nil ?_
 show Ev _ _ _ _ _
 refine .cond_true rfl (rfl) ?_
 refine .region ?_
 refine .q (op_move rfl) trivial rfl ?_
 refine .q (op_call (U := []) [] [] (scutp_y s ssh1 h1) Tryd.func166 (by kernel_rfl) rfl rfl rfl (⟨⟨_, rfl, rfl, rfl⟩, ⟨_, rfl, rfl, rfl⟩, trivial⟩) (trivial) (trivial) (trivial) rfl) trivial rfl ?_
 refine .q (op_move rfl) trivial rfl ?_
 refine .q (op_extract rfl rfl) trivial rfl ?_
 refine .q (op_extract rfl rfl) trivial rfl ?_
 refine .q (op_assign rfl) trivial rfl ?_
 refine .q (op_assign rfl) trivial rfl ?_
 refine .nil ?_
 show Ev _ _ _ _ _
 refine .seq ?_
 refine .region ?_
 refine .q (op_move rfl) trivial rfl ?_
 refine .q (op_call (U := []) [] [] (scuts_n (s.drop 9) 32 (by first | omega | (simp only [List.length_drop]; omega)) hsp) Tryd.func111 (by kernel_rfl) rfl rfl rfl (⟨⟨_, rfl, rfl, rfl⟩, ⟨_, rfl, rfl, rfl⟩, trivial⟩) (trivial) (trivial) (trivial) rfl) trivial rfl ?_
 refine .q (op_move rfl) trivial rfl ?_
 refine .q (op_extract rfl rfl) trivial rfl ?_
 refine .q (op_extract rfl rfl) trivial rfl ?_
 refine .q (op_extract rfl rfl) trivial rfl ?_
 refine .q (op_assign rfl) trivial rfl ?_
 refine .q (op_assign rfl) trivial rfl ?_
 refine .q (op_assign rfl) trivial rfl ?_
 refine .nil ?_
 show Ev _ _ _ _ _
 refine .seq ?_
 refine .region ?_
 refine .q (op_move rfl) trivial rfl ?_
 refine .q (op_move rfl) trivial rfl ?_
 refine .know (b' := true) (rfl) ?_
 refine .q (op_move rfl) ⟨_, rfl, rfl⟩ rfl ?_
 refine .q (op_call (U := []) [] [] (issoft_ev ((s.drop 9)) (by first | omega | (have := cutB_le 32 (s.drop 9); simp only [List.length_drop] at *; omega) | (simp only [List.length_drop]; omega))) Tryd.func72 (by kernel_rfl) rfl rfl rfl (⟨⟨_, rfl, rfl, rfl⟩, trivial⟩) (trivial) (trivial) (trivial) rfl) ⟨_, rfl, rfl⟩ rfl ?_
 refine .q (op_pick_true rfl rfl rfl) trivial rfl ?_
 refine .q (op_assign rfl) trivial rfl ?_
 refine .nil ?_
 show Ev _ _ _ _ _
 refine .ret ?_
 show RetOk _ _ _ _ _ _ _
 exact ret1v rfl (.inl rfl) rfl (congrArg AV.bool (by unfold verB; rw [rest_1 h2 h1]; simp only [h2, h1, Bool.or_true, Bool.true_and]; rw [cut_none 32 _ hsp])) trivial
set_option maxRecDepth 100000 in
theorem isver_0y (s : List UInt8) (hs : s.length ≤ 9000000000) (h2 : begB ssh2 s = false) (h1 : begB ssh1 s = false) (hsp : (s).contains 32 = true) : Meets Tryd.prog 148 [.str s] [] (.bool (verB s)) [] := by
 refine meets_of_ev (nt := 31) Tryd.func148 rfl rfl (Nat.le_of_ble_eq_true rfl) ?_
 refine .seq ?_
 refine .region ?_
 refine .q (op_assign rfl) trivial rfl ?_
 refine .nil ?_
 show Ev _ _ _ _ _
 refine .seq ?_
 refine .region ?_
 refine .q (op_move rfl) trivial rfl ?_
 refine .q (op_call (U := []) [] [] (scutp_n s ssh2 h2) Tryd.func166 (by kernel_rfl) rfl rfl rfl (⟨⟨_, rfl, rfl, rfl⟩, ⟨_, rfl, rfl, rfl⟩, trivial⟩) (trivial) (trivial) (trivial) rfl) trivial rfl ?_
 refine .q (op_move rfl) trivial rfl ?_
 refine .q (op_extract rfl rfl) trivial rfl ?_
 refine .q (op_extract rfl rfl) trivial rfl ?_
 refine .q (op_assign rfl) trivial rfl ?_
 refine .q (op_assign rfl) trivial rfl ?_
 refine .nil ?_
 show Ev _ _ _ _ _
 refine .seq ?_
 refine .seq ?_
 refine .region ?_
 refine .q (op_move rfl) trivial rfl ?_
 refine .q (op_notB rfl) trivial rfl ?_
 refine .nil ?_
 show Ev _ _ _ _ _
 refine .cond_true rfl (rfl) ?_
 refine .region ?_
 refine .q (op_move rfl) trivial rfl ?_
 refine .q (op_call (U := []) [] [] (scutp_n s ssh1 h1) Tryd.func166 (by kernel_rfl) rfl rfl rfl (⟨⟨_, rfl, rfl, rfl⟩, ⟨_, rfl, rfl, rfl⟩, trivial⟩) (trivial) (trivial) (trivial) rfl) trivial rfl ?_
 refine .q (op_move rfl) trivial rfl ?_
 refine .q (op_extract rfl rfl) trivial rfl ?_
 refine .q (op_extract rfl rfl) trivial rfl ?_
 refine .q (op_assign rfl) trivial rfl ?_
 refine .q (op_assign rfl) trivial rfl ?_
 refine .nil ?_
 show Ev _ _ _ _ _
 refine .seq ?_
 refine .region ?_
 refine .q (op_move rfl) trivial rfl ?_
 refine .q (op_call (U := []) [] [] (scuts_y s 32 (by first | omega | (simp only [List.length_drop]; omega)) hsp) Tryd.func111 (by kernel_rfl) rfl rfl rfl (⟨⟨_, rfl, rfl, rfl⟩, ⟨_, rfl, rfl, rfl⟩, trivial⟩) (trivial) (trivial) (trivial) rfl) trivial rfl ?_
 refine .q (op_move rfl) trivial rfl ?_
 refine .q (op_extract rfl rfl) trivial rfl ?_
 refine .q (op_extract rfl rfl) trivial rfl ?_
 refine .q (op_extract rfl rfl) trivial rfl ?_
 refine .q (op_assign rfl) trivial rfl ?_
 refine .q (op_assign rfl) trivial rfl ?_
 refine .q (op_assign rfl) trivial rfl ?_
 refine .nil ?_
 show Ev _ _ _ _ _
 refine .seq ?_
 refine .region ?_
 refine .q (op_move rfl) trivial rfl ?_
 refine .q (op_move rfl) trivial rfl ?_
 refine .know (b' := false) (rfl) ?_
 refine .no ⟨_, rfl, rfl⟩ rfl ?_
 refine .no ⟨_, rfl, rfl⟩ rfl ?_
 refine .q (op_pick_false rfl rfl rfl) trivial rfl ?_
 refine .q (op_assign rfl) trivial rfl ?_
 refine .nil ?_
 show Ev _ _ _ _ _
 refine .ret ?_
 show RetOk _ _ _ _ _ _ _
 exact ret1v rfl (.inl rfl) rfl (congrArg AV.bool (by unfold verB; rw [rest_0 h2 h1]; simp only [h2, h1, Bool.or_false, Bool.false_and])) trivial
set_option maxRecDepth 100000 in
theorem isver_0n (s : List UInt8) (hs : s.length ≤ 9000000000) (h2 : begB ssh2 s = false) (h1 : begB ssh1 s = false) (hsp : (s).contains 32 = false) : Meets Tryd.prog 148 [.str s] [] (.bool (verB s)) [] := by
 refine meets_of_ev (nt := 31) Tryd.func148 rfl rfl (Nat.le_of_ble_eq_true rfl) ?_
 refine .seq ?_
 refine .region ?_
 refine .q (op_assign rfl) trivial rfl ?_
 refine .nil ?_
 show Ev _ _ _ _ _
 refine .seq ?_
 refine .region ?_
 refine .q (op_move rfl) trivial rfl ?_
 refine .q (op_call (U := []) [] [] (scutp_n s ssh2 h2) Tryd.func166 (by kernel_rfl) rfl rfl rfl (⟨⟨_, rfl, rfl, rfl⟩, ⟨_, rfl, rfl, rfl⟩, trivial⟩) (trivial) (trivial) (trivial) rfl) trivial rfl ?_
 refine .q (op_move rfl) trivial rfl ?_
 refine .q (op_extract rfl rfl) trivial rfl ?_
 refine .q (op_extract rfl rfl) trivial rfl ?_
 refine .q (op_assign rfl) trivial rfl ?_
 refine .q (op_assign rfl) trivial rfl ?_
 refine .nil ?_
 show Ev _ _ _ _ _
 refine .seq ?_
 refine .seq ?_
 refine .region ?_
 refine .q (op_move rfl) trivial rfl ?_
 refine .q (op_notB rfl) trivial rfl ?_
 refine .nil ?_
 show Ev _ _ _ _ _
 refine .cond_true rfl (rfl) ?_
 refine .region ?_
 refine .q (op_move rfl) trivial rfl ?_
 refine .q (op_call (U := []) [] [] (scutp_n s ssh1 h1) Tryd.func166 (by kernel_rfl) rfl rfl rfl (⟨⟨_, rfl, rfl, rfl⟩, ⟨_, rfl, rfl, rfl⟩, trivial⟩) (trivial) (trivial) (trivial) rfl) trivial rfl ?_
 refine .q (op_move rfl) trivial rfl ?_
 refine .q (op_extract rfl rfl) trivial rfl ?_
 refine .q (op_extract rfl rfl) trivial rfl ?_
 refine .q (op_assign rfl) trivial rfl ?_
 refine .q (op_assign rfl) trivial rfl ?_
 refine .nil ?_
 show Ev _ _ _ _ _
 refine .seq ?_
 refine .region ?_
 refine .q (op_move rfl) trivial rfl ?_
 refine .q (op_call (U := []) [] [] (scuts_n s 32 (by first | omega | (simp only [List.length_drop]; omega)) hsp) Tryd.func111 (by kernel_rfl) rfl rfl rfl (⟨⟨_, rfl, rfl, rfl⟩, ⟨_, rfl, rfl, rfl⟩, trivial⟩) (trivial) (trivial) (trivial) rfl) trivial rfl ?_
 refine .q (op_move rfl) trivial rfl ?_
 refine .q (op_extract rfl rfl) trivial rfl ?_
 refine .q (op_extract rfl rfl) trivial rfl ?_
 refine .q (op_extract rfl rfl) trivial rfl ?_
 refine .q (op_assign rfl) trivial rfl ?_
 refine .q (op_assign rfl) trivial rfl ?_
 refine .q (op_assign rfl) trivial rfl ?_
 refine .nil ?_
 show Ev _ _ _ _ _
 refine .seq ?_
 refine .region ?_
 refine .q (op_move rfl) trivial rfl ?_
 refine .q (op_move rfl) trivial rfl ?_
 refine .know (b' := false) (rfl) ?_
 refine .no ⟨_, rfl, rfl⟩ rfl ?_
 refine .no ⟨_, rfl, rfl⟩ rfl ?_
 refine .q (op_pick_false rfl rfl rfl) trivial rfl ?_
 refine .q (op_assign rfl) trivial rfl ?_
 refine .nil ?_
 show Ev _ _ _ _ _
 refine .ret ?_
 show RetOk _ _ _ _ _ _ _
 exact ret1v rfl (.inl rfl) rfl (congrArg AV.bool (by unfold verB; rw [rest_0 h2 h1]; simp only [h2, h1, Bool.or_false, Bool.false_and])) trivial
theorem isver_ev (s : List UInt8) (hs : s.length ≤ 9000000000) : Meets Tryd.prog 148 [.str s] [] (.bool (verB s)) [] := by
 cases h2 : begB ssh2 s with
 | true => exact (by
   cases hsp : ((s.drop 8)).contains 32 with
   | true => exact isver_2y s hs h2 hsp
   | false => exact isver_2n s hs h2 hsp)
 | false =>
  cases h1 : begB ssh1 s with
  | true => exact (by
   cases hsp : ((s.drop 9)).contains 32 with
   | true => exact isver_1y s hs h2 h1 hsp
   | false => exact isver_1n s hs h2 h1 hsp)
  | false => exact (by
   cases hsp : (s).contains 32 with
   | true => exact isver_0y s hs h2 h1 hsp
   | false => exact isver_0n s hs h2 h1 hsp)
set_option maxRecDepth 100000 in
theorem proc_0 (h : HD) (s : List UInt8) (_hs : s.length ≤ 9000000000) (_hg : h.g ≤ 16) (h0 : s.contains 0 = true) (eo : Nat → Nat × Nat) : Meets Tryd.prog 113 [.ptr 500 0, .str s] [(500, some ⟨.agg [.bool (h).c, .nilsl, .i64 (((h).g : Nat) : Int), .str (h).v, .err 225 ((h).e) (offE eo ((h).e))], 115, true⟩), (0, some ⟨.agg [.err 225 (3) (offE eo (3))], errT, false⟩), (11, some ⟨.agg [.err 225 (12) (offE eo (12))], errT, false⟩)] (.err 225 (3) (offE eo (3))) [(500, some ⟨.agg [.bool (h).c, .nilsl, .i64 (((h).g : Nat) : Int), .str (h).v, .err 225 ((h).e) (offE eo ((h).e))], 115, true⟩)] := by
 refine meets_of_ev (nt := 38) Tryd.func113 rfl rfl (Nat.le_of_ble_eq_true rfl) ?_
 refine .seq ?_
 refine .region ?_
 refine .q (op_assign rfl) trivial rfl ?_
 refine .asR (.err 225 0 (offE eo 0)) (nil_err _ _) ?_
 refine .nil ?_
 show Ev _ _ _ _ _
 refine .seq ?_
 refine .seq ?_
 refine .region ?_
 refine .q (op_move rfl) trivial rfl ?_
 refine .q (op_call (U := []) [] [] (contains_ev s 0) Tryd.func146 (by kernel_rfl) rfl rfl rfl (⟨⟨_, rfl, rfl, rfl⟩, ⟨_, rfl, rfl, rfl⟩, trivial⟩) (trivial) (trivial) (trivial) rfl) trivial rfl ?_
 refine .nil ?_
 show Ev _ _ _ _ _
 refine .cond_true rfl ((has_idx 0 s).trans h0) ?_
 refine .seq ?_
 refine .region ?_
 refine .q (op_load Tryd.underlying26 rfl rfl rfl rfl (by first | omega | (simp only [AV.len]; omega) | (simp only [AV.len]; omega) | assumption | (simp [AV.len]; done))) trivial rfl ?_
 refine .q (op_assign rfl) trivial rfl ?_
 refine .nil ?_
 show Ev _ _ _ _ _
 refine .ret ?_
 show RetOk _ _ _ _ _ _ _
 exact ret1v rfl (.inl rfl) rfl rfl ⟨rfl, trivial⟩
set_option maxRecDepth 100000 in
theorem proc_v (h : HD) (s : List UInt8) (hs : s.length ≤ 9000000000) (_hg : h.g ≤ 16) (h0 : s.contains 0 = false) (h1 : begB sshP s = true) (h2 : verB s = true) (eo : Nat → Nat × Nat) : Meets Tryd.prog 113 [.ptr 500 0, .str s] [(500, some ⟨.agg [.bool (h).c, .nilsl, .i64 (((h).g : Nat) : Int), .str (h).v, .err 225 ((h).e) (offE eo ((h).e))], 115, true⟩), (0, some ⟨.agg [.err 225 (3) (offE eo (3))], errT, false⟩), (11, some ⟨.agg [.err 225 (12) (offE eo (12))], errT, false⟩)] (.err 225 (0) (offE eo (0))) [(500, some ⟨.agg [.bool ({ h with v := s }).c, .nilsl, .i64 ((({ h with v := s }).g : Nat) : Int), .str ({ h with v := s }).v, .err 225 (({ h with v := s }).e) (offE eo (({ h with v := s }).e))], 115, true⟩)] := by
 refine meets_of_ev (nt := 38) Tryd.func113 rfl rfl (Nat.le_of_ble_eq_true rfl) ?_
 refine .seq ?_
 refine .region ?_
 refine .q (op_assign rfl) trivial rfl ?_
 refine .asR (.err 225 0 (offE eo 0)) (nil_err _ _) ?_
 refine .nil ?_
 show Ev _ _ _ _ _
 refine .seq ?_
 refine .seq ?_
 refine .region ?_
 refine .q (op_move rfl) trivial rfl ?_
 refine .q (op_call (U := []) [] [] (contains_ev s 0) Tryd.func146 (by kernel_rfl) rfl rfl rfl (⟨⟨_, rfl, rfl, rfl⟩, ⟨_, rfl, rfl, rfl⟩, trivial⟩) (trivial) (trivial) (trivial) rfl) trivial rfl ?_
 refine .nil ?_
 show Ev _ _ _ _ _
 refine .cond_false rfl ((has_idx 0 s).trans h0) ?_
 refine .skip ?_
 show Ev _ _ _ _ _
 refine .seq ?_
 refine .seq ?_
 refine .region ?_
 refine .q (op_move rfl) trivial rfl ?_
 refine .q (op_call (U := []) [] [] (hasp_ev s sshP) Tryd.func147 (by kernel_rfl) rfl rfl rfl (⟨⟨_, rfl, rfl, rfl⟩, ⟨_, rfl, rfl, rfl⟩, trivial⟩) (trivial) (trivial) (trivial) rfl) trivial rfl ?_
 refine .nil ?_
 show Ev _ _ _ _ _
 refine .cond_true rfl (h1) ?_
 refine .seq ?_
 refine .seq ?_
 refine .region ?_
 refine .q (op_move rfl) trivial rfl ?_
 refine .q (op_call (U := []) [] [] (isver_ev s hs) Tryd.func148 (by kernel_rfl) rfl rfl rfl (⟨⟨_, rfl, rfl, rfl⟩, trivial⟩) (trivial) (trivial) (trivial) rfl) trivial rfl ?_
 refine .q (op_notB rfl) trivial rfl ?_
 refine .nil ?_
 show Ev _ _ _ _ _
 refine .cond_false rfl (by rw [h2]; rfl) ?_
 refine .skip ?_
 show Ev _ _ _ _ _
 refine .seq ?_
 refine .region ?_
 refine .q (op_move rfl) trivial rfl ?_
 refine .q (op_move rfl) trivial rfl ?_
 refine .q (op_nilCheck rfl) trivial rfl ?_
 refine .q (op_fieldAddr (m := 0) Tryd.underlying115 rfl (by kernel_rfl) rfl) trivial rfl ?_
 refine .as (.ptr 500 3) rfl ?_
 refine .w (op_store inf9.sz rfl rfl rfl rfl rfl (by show 3 < 5; decide)) trivial rfl ?_
 refine .nil ?_
 show Ev _ _ _ _ _
 refine .seq ?_
 refine .region ?_
 refine .q (op_assign rfl) trivial rfl ?_
 refine .asR (.err 225 0 (offE eo 0)) (nil_err _ _) ?_
 refine .nil ?_
 show Ev _ _ _ _ _
 refine .ret ?_
 show RetOk _ _ _ _ _ _ _
 exact ret1v rfl (.inl rfl) rfl rfl ⟨rfl, trivial⟩
set_option maxRecDepth 100000 in
theorem proc_w (h : HD) (s : List UInt8) (hs : s.length ≤ 9000000000) (_hg : h.g ≤ 16) (h0 : s.contains 0 = false) (h1 : begB sshP s = true) (h2 : verB s = false) (eo : Nat → Nat × Nat) : Meets Tryd.prog 113 [.ptr 500 0, .str s] [(500, some ⟨.agg [.bool (h).c, .nilsl, .i64 (((h).g : Nat) : Int), .str (h).v, .err 225 ((h).e) (offE eo ((h).e))], 115, true⟩), (0, some ⟨.agg [.err 225 (3) (offE eo (3))], errT, false⟩), (11, some ⟨.agg [.err 225 (12) (offE eo (12))], errT, false⟩)] (.err 225 (12) (offE eo (12))) [(500, some ⟨.agg [.bool (h).c, .nilsl, .i64 (((h).g : Nat) : Int), .str (h).v, .err 225 ((h).e) (offE eo ((h).e))], 115, true⟩)] := by
 refine meets_of_ev (nt := 38) Tryd.func113 rfl rfl (Nat.le_of_ble_eq_true rfl) ?_
 refine .seq ?_
 refine .region ?_
 refine .q (op_assign rfl) trivial rfl ?_
 refine .asR (.err 225 0 (offE eo 0)) (nil_err _ _) ?_
 refine .nil ?_
 show Ev _ _ _ _ _
 refine .seq ?_
 refine .seq ?_
 refine .region ?_
 refine .q (op_move rfl) trivial rfl ?_
 refine .q (op_call (U := []) [] [] (contains_ev s 0) Tryd.func146 (by kernel_rfl) rfl rfl rfl (⟨⟨_, rfl, rfl, rfl⟩, ⟨_, rfl, rfl, rfl⟩, trivial⟩) (trivial) (trivial) (trivial) rfl) trivial rfl ?_
 refine .nil ?_
 show Ev _ _ _ _ _
 refine .cond_false rfl ((has_idx 0 s).trans h0) ?_
 refine .skip ?_
 show Ev _ _ _ _ _
 refine .seq ?_
 refine .seq ?_
 refine .region ?_
 refine .q (op_move rfl) trivial rfl ?_
 refine .q (op_call (U := []) [] [] (hasp_ev s sshP) Tryd.func147 (by kernel_rfl) rfl rfl rfl (⟨⟨_, rfl, rfl, rfl⟩, ⟨_, rfl, rfl, rfl⟩, trivial⟩) (trivial) (trivial) (trivial) rfl) trivial rfl ?_
 refine .nil ?_
 show Ev _ _ _ _ _
 refine .cond_true rfl (h1) ?_
 refine .seq ?_
 refine .seq ?_
 refine .region ?_
 refine .q (op_move rfl) trivial rfl ?_
 refine .q (op_call (U := []) [] [] (isver_ev s hs) Tryd.func148 (by kernel_rfl) rfl rfl rfl (⟨⟨_, rfl, rfl, rfl⟩, trivial⟩) (trivial) (trivial) (trivial) rfl) trivial rfl ?_
 refine .q (op_notB rfl) trivial rfl ?_
 refine .nil ?_
 show Ev _ _ _ _ _
 refine .cond_true rfl (by rw [h2]; rfl) ?_
 refine .seq ?_
 refine .region ?_
 refine .q (op_load Tryd.underlying26 rfl rfl rfl rfl (by first | omega | (simp only [AV.len]; omega) | (simp only [AV.len]; omega) | assumption | (simp [AV.len]; done))) trivial rfl ?_
 refine .q (op_assign rfl) trivial rfl ?_
 refine .nil ?_
 show Ev _ _ _ _ _
 refine .ret ?_
 show RetOk _ _ _ _ _ _ _
 exact ret1v rfl (.inl rfl) rfl rfl ⟨rfl, trivial⟩
set_option maxRecDepth 100000 in
theorem proc_c (h : HD) (s : List UInt8) (_hs : s.length ≤ 9000000000) (_hg : h.g ≤ 16) (h0 : s.contains 0 = false) (h1 : begB sshP s = false) (h3 : h.c = false) (eo : Nat → Nat × Nat) : Meets Tryd.prog 113 [.ptr 500 0, .str s] [(500, some ⟨.agg [.bool (h).c, .nilsl, .i64 (((h).g : Nat) : Int), .str (h).v, .err 225 ((h).e) (offE eo ((h).e))], 115, true⟩), (0, some ⟨.agg [.err 225 (3) (offE eo (3))], errT, false⟩), (11, some ⟨.agg [.err 225 (12) (offE eo (12))], errT, false⟩)] (.err 225 (12) (offE eo (12))) [(500, some ⟨.agg [.bool (h).c, .nilsl, .i64 (((h).g : Nat) : Int), .str (h).v, .err 225 ((h).e) (offE eo ((h).e))], 115, true⟩)] := by
 refine meets_of_ev (nt := 38) Tryd.func113 rfl rfl (Nat.le_of_ble_eq_true rfl) ?_
 refine .seq ?_
 refine .region ?_
 refine .q (op_assign rfl) trivial rfl ?_
 refine .asR (.err 225 0 (offE eo 0)) (nil_err _ _) ?_
 refine .nil ?_
 show Ev _ _ _ _ _
 refine .seq ?_
 refine .seq ?_
 refine .region ?_
 refine .q (op_move rfl) trivial rfl ?_
 refine .q (op_call (U := []) [] [] (contains_ev s 0) Tryd.func146 (by kernel_rfl) rfl rfl rfl (⟨⟨_, rfl, rfl, rfl⟩, ⟨_, rfl, rfl, rfl⟩, trivial⟩) (trivial) (trivial) (trivial) rfl) trivial rfl ?_
 refine .nil ?_
 show Ev _ _ _ _ _
 refine .cond_false rfl ((has_idx 0 s).trans h0) ?_
 refine .skip ?_
 show Ev _ _ _ _ _
 refine .seq ?_
 refine .seq ?_
 refine .region ?_
 refine .q (op_move rfl) trivial rfl ?_
 refine .q (op_call (U := []) [] [] (hasp_ev s sshP) Tryd.func147 (by kernel_rfl) rfl rfl rfl (⟨⟨_, rfl, rfl, rfl⟩, ⟨_, rfl, rfl, rfl⟩, trivial⟩) (trivial) (trivial) (trivial) rfl) trivial rfl ?_
 refine .nil ?_
 show Ev _ _ _ _ _
 refine .cond_false rfl (h1) ?_
 refine .skip ?_
 show Ev _ _ _ _ _
 refine .seq ?_
 refine .seq ?_
 refine .region ?_
 refine .q (op_move rfl) trivial rfl ?_
 refine .q (op_nilCheck rfl) trivial rfl ?_
 refine .q (op_fieldAddr (m := 0) Tryd.underlying115 rfl (by kernel_rfl) rfl) trivial rfl ?_
 refine .as (.ptr 500 0) rfl ?_
 refine .q (op_load Tryd.underlying4 rfl rfl rfl rfl (by show 0 < 5; decide)) trivial rfl ?_
 refine .q (op_notB rfl) trivial rfl ?_
 refine .q (op_move rfl) trivial rfl ?_
 refine .know (b' := true) (by rw [h3]; rfl) ?_
 refine .no ⟨_, rfl, rfl⟩ rfl ?_
 refine .no ⟨_, rfl, rfl⟩ rfl ?_
 refine .no ⟨_, rfl, rfl⟩ rfl ?_
 refine .no ⟨_, rfl, rfl⟩ rfl ?_
 refine .no ⟨_, rfl, rfl⟩ rfl ?_
 refine .q (op_pick_true rfl rfl rfl) trivial rfl ?_
 refine .nil ?_
 show Ev _ _ _ _ _
 refine .cond_true rfl rfl ?_
 refine .seq ?_
 refine .region ?_
 refine .q (op_load Tryd.underlying26 rfl rfl rfl rfl (by first | omega | (simp only [AV.len]; omega) | (simp only [AV.len]; omega) | assumption | (simp [AV.len]; done))) trivial rfl ?_
 refine .q (op_assign rfl) trivial rfl ?_
 refine .nil ?_
 show Ev _ _ _ _ _
 refine .ret ?_
 show RetOk _ _ _ _ _ _ _
 exact ret1v rfl (.inl rfl) rfl rfl ⟨rfl, trivial⟩
set_option maxRecDepth 100000 in
theorem proc_g (h : HD) (s : List UInt8) (_hs : s.length ≤ 9000000000) (_hg : h.g ≤ 16) (h0 : s.contains 0 = false) (h1 : begB sshP s = false) (h3 : h.c = true) (h4 : h.g = 16) (eo : Nat → Nat × Nat) : Meets Tryd.prog 113 [.ptr 500 0, .str s] [(500, some ⟨.agg [.bool (h).c, .nilsl, .i64 (((h).g : Nat) : Int), .str (h).v, .err 225 ((h).e) (offE eo ((h).e))], 115, true⟩), (0, some ⟨.agg [.err 225 (3) (offE eo (3))], errT, false⟩), (11, some ⟨.agg [.err 225 (12) (offE eo (12))], errT, false⟩)] (.err 225 (12) (offE eo (12))) [(500, some ⟨.agg [.bool (h).c, .nilsl, .i64 (((h).g : Nat) : Int), .str (h).v, .err 225 ((h).e) (offE eo ((h).e))], 115, true⟩)] := by
 refine meets_of_ev (nt := 38) Tryd.func113 rfl rfl (Nat.le_of_ble_eq_true rfl) ?_
 refine .seq ?_
 refine .region ?_
 refine .q (op_assign rfl) trivial rfl ?_
 refine .asR (.err 225 0 (offE eo 0)) (nil_err _ _) ?_
 refine .nil ?_
 show Ev _ _ _ _ _
 refine .seq ?_
 refine .seq ?_
 refine .region ?_
 refine .q (op_move rfl) trivial rfl ?_
 refine .q (op_call (U := []) [] [] (contains_ev s 0) Tryd.func146 (by kernel_rfl) rfl rfl rfl (⟨⟨_, rfl, rfl, rfl⟩, ⟨_, rfl, rfl, rfl⟩, trivial⟩) (trivial) (trivial) (trivial) rfl) trivial rfl ?_
 refine .nil ?_
 show Ev _ _ _ _ _
 refine .cond_false rfl ((has_idx 0 s).trans h0) ?_
 refine .skip ?_
 show Ev _ _ _ _ _
 refine .seq ?_
 refine .seq ?_
 refine .region ?_
 refine .q (op_move rfl) trivial rfl ?_
 refine .q (op_call (U := []) [] [] (hasp_ev s sshP) Tryd.func147 (by kernel_rfl) rfl rfl rfl (⟨⟨_, rfl, rfl, rfl⟩, ⟨_, rfl, rfl, rfl⟩, trivial⟩) (trivial) (trivial) (trivial) rfl) trivial rfl ?_
 refine .nil ?_
 show Ev _ _ _ _ _
 refine .cond_false rfl (h1) ?_
 refine .skip ?_
 show Ev _ _ _ _ _
 refine .seq ?_
 refine .seq ?_
 refine .region ?_
 refine .q (op_move rfl) trivial rfl ?_
 refine .q (op_nilCheck rfl) trivial rfl ?_
 refine .q (op_fieldAddr (m := 0) Tryd.underlying115 rfl (by kernel_rfl) rfl) trivial rfl ?_
 refine .as (.ptr 500 0) rfl ?_
 refine .q (op_load Tryd.underlying4 rfl rfl rfl rfl (by show 0 < 5; decide)) trivial rfl ?_
 refine .q (op_notB rfl) trivial rfl ?_
 refine .q (op_move rfl) trivial rfl ?_
 refine .know (b' := false) (by rw [h3]; rfl) ?_
 refine .q (op_move rfl) ⟨_, rfl, rfl⟩ rfl ?_
 refine .q (op_nilCheck rfl) ⟨_, rfl, rfl⟩ rfl ?_
 refine .q (op_fieldAddr (m := 0) Tryd.underlying115 rfl (by kernel_rfl) rfl) ⟨_, rfl, rfl⟩ rfl ?_
 refine .as (.ptr 500 2) rfl ?_
 refine .q (op_load Tryd.underlying3 rfl rfl rfl rfl (by show 2 < 5; decide)) ⟨_, rfl, rfl⟩ rfl ?_
 refine .q (op_cmpI rfl rfl rfl) ⟨_, rfl, rfl⟩ rfl ?_
 refine .q (op_pick_false rfl rfl rfl) trivial rfl ?_
 refine .nil ?_
 show Ev _ _ _ _ _
 refine .cond_true rfl ((by rw [h4]; rfl)) ?_
 refine .seq ?_
 refine .region ?_
 refine .q (op_load Tryd.underlying26 rfl rfl rfl rfl (by first | omega | (simp only [AV.len]; omega) | (simp only [AV.len]; omega) | assumption | (simp [AV.len]; done))) trivial rfl ?_
 refine .q (op_assign rfl) trivial rfl ?_
 refine .nil ?_
 show Ev _ _ _ _ _
 refine .ret ?_
 show RetOk _ _ _ _ _ _ _
 exact ret1v rfl (.inl rfl) rfl rfl ⟨rfl, trivial⟩
set_option maxRecDepth 100000 in
theorem proc_m (h : HD) (s : List UInt8) (_hs : s.length ≤ 9000000000) (hg : h.g ≤ 16) (h0 : s.contains 0 = false) (h1 : begB sshP s = false) (h3 : h.c = true) (h4 : h.g ≠ 16) (eo : Nat → Nat × Nat) : Meets Tryd.prog 113 [.ptr 500 0, .str s] [(500, some ⟨.agg [.bool (h).c, .nilsl, .i64 (((h).g : Nat) : Int), .str (h).v, .err 225 ((h).e) (offE eo ((h).e))], 115, true⟩), (0, some ⟨.agg [.err 225 (3) (offE eo (3))], errT, false⟩), (11, some ⟨.agg [.err 225 (12) (offE eo (12))], errT, false⟩)] (.err 225 (0) (offE eo (0))) [(500, some ⟨.agg [.bool ({ h with g := h.g + 1 }).c, .nilsl, .i64 ((({ h with g := h.g + 1 }).g : Nat) : Int), .str ({ h with g := h.g + 1 }).v, .err 225 (({ h with g := h.g + 1 }).e) (offE eo (({ h with g := h.g + 1 }).e))], 115, true⟩)] := by
 refine meets_of_ev (nt := 38) Tryd.func113 rfl rfl (Nat.le_of_ble_eq_true rfl) ?_
 refine .seq ?_
 refine .region ?_
 refine .q (op_assign rfl) trivial rfl ?_
 refine .asR (.err 225 0 (offE eo 0)) (nil_err _ _) ?_
 refine .nil ?_
 show Ev _ _ _ _ _
 refine .seq ?_
 refine .seq ?_
 refine .region ?_
 refine .q (op_move rfl) trivial rfl ?_
 refine .q (op_call (U := []) [] [] (contains_ev s 0) Tryd.func146 (by kernel_rfl) rfl rfl rfl (⟨⟨_, rfl, rfl, rfl⟩, ⟨_, rfl, rfl, rfl⟩, trivial⟩) (trivial) (trivial) (trivial) rfl) trivial rfl ?_
 refine .nil ?_
 show Ev _ _ _ _ _
 refine .cond_false rfl ((has_idx 0 s).trans h0) ?_
 refine .skip ?_
 show Ev _ _ _ _ _
 refine .seq ?_
 refine .seq ?_
 refine .region ?_
 refine .q (op_move rfl) trivial rfl ?_
 refine .q (op_call (U := []) [] [] (hasp_ev s sshP) Tryd.func147 (by kernel_rfl) rfl rfl rfl (⟨⟨_, rfl, rfl, rfl⟩, ⟨_, rfl, rfl, rfl⟩, trivial⟩) (trivial) (trivial) (trivial) rfl) trivial rfl ?_
 refine .nil ?_
 show Ev _ _ _ _ _
 refine .cond_false rfl (h1) ?_
 refine .skip ?_
 show Ev _ _ _ _ _
 refine .seq ?_
 refine .seq ?_
 refine .region ?_
 refine .q (op_move rfl) trivial rfl ?_
 refine .q (op_nilCheck rfl) trivial rfl ?_
 refine .q (op_fieldAddr (m := 0) Tryd.underlying115 rfl (by kernel_rfl) rfl) trivial rfl ?_
 refine .as (.ptr 500 0) rfl ?_
 refine .q (op_load Tryd.underlying4 rfl rfl rfl rfl (by show 0 < 5; decide)) trivial rfl ?_
 refine .q (op_notB rfl) trivial rfl ?_
 refine .q (op_move rfl) trivial rfl ?_
 refine .know (b' := false) (by rw [h3]; rfl) ?_
 refine .q (op_move rfl) ⟨_, rfl, rfl⟩ rfl ?_
 refine .q (op_nilCheck rfl) ⟨_, rfl, rfl⟩ rfl ?_
 refine .q (op_fieldAddr (m := 0) Tryd.underlying115 rfl (by kernel_rfl) rfl) ⟨_, rfl, rfl⟩ rfl ?_
 refine .as (.ptr 500 2) rfl ?_
 refine .q (op_load Tryd.underlying3 rfl rfl rfl rfl (by show 2 < 5; decide)) ⟨_, rfl, rfl⟩ rfl ?_
 refine .q (op_cmpI rfl rfl rfl) ⟨_, rfl, rfl⟩ rfl ?_
 refine .q (op_pick_false rfl rfl rfl) trivial rfl ?_
 refine .nil ?_
 show Ev _ _ _ _ _
 refine .cond_false rfl (beq_eq_false_iff_ne.2 (fun e => h4 (by omega))) ?_
 refine .skip ?_
 show Ev _ _ _ _ _
 refine .seq ?_
 refine .region ?_
 refine .q (op_move rfl) trivial rfl ?_
 refine .q (op_nilCheck rfl) trivial rfl ?_
 refine .q (op_fieldAddr (m := 0) Tryd.underlying115 rfl (by kernel_rfl) rfl) trivial rfl ?_
 refine .as (.ptr 500 2) rfl ?_
 refine .q (op_load Tryd.underlying3 rfl rfl rfl rfl (by show 2 < 5; decide)) trivial rfl ?_
 refine .q (op_addI rfl rfl ⟨by omega, by omega⟩) trivial rfl ?_
 refine .q (op_nilCheck rfl) trivial rfl ?_
 refine .q (op_fieldAddr (m := 0) Tryd.underlying115 rfl (by kernel_rfl) rfl) trivial rfl ?_
 refine .as (.ptr 500 2) rfl ?_
 refine .w (op_store inf3.sz rfl rfl rfl rfl rfl (by show 2 < 5; decide)) trivial rfl ?_
 refine .nil ?_
 show Ev _ _ _ _ _
 refine .seq ?_
 refine .region ?_
 refine .q (op_assign rfl) trivial rfl ?_
 refine .asR (.err 225 0 (offE eo 0)) (nil_err _ _) ?_
 refine .nil ?_
 show Ev _ _ _ _ _
 refine .ret ?_
 show RetOk _ _ _ _ _ _ _
 exact ret1v rfl (.inl rfl) rfl rfl ⟨rfl, trivial⟩
theorem proc_ev (h : HD) (s : List UInt8) (hs : s.length ≤ 9000000000) (hg : h.g ≤ 16) (eo : Nat → Nat × Nat) : Meets Tryd.prog 113 [.ptr 500 0, .str s] [(500, some ⟨.agg [.bool (h).c, .nilsl, .i64 (((h).g : Nat) : Int), .str (h).v, .err 225 ((h).e) (offE eo ((h).e))], 115, true⟩), (0, some ⟨.agg [.err 225 (3) (offE eo (3))], errT, false⟩), (11, some ⟨.agg [.err 225 (12) (offE eo (12))], errT, false⟩)] (.err 225 (procE h s) (offE eo (procE h s))) [(500, some ⟨.agg [.bool (procH h s).c, .nilsl, .i64 (((procH h s).g : Nat) : Int), .str (procH h s).v, .err 225 ((procH h s).e) (offE eo ((procH h s).e))], 115, true⟩)] := by
 unfold procE procH
 cases h0 : s.contains 0 with
 | true => simp only [if_true]; exact proc_0 h s hs hg h0 eo
 | false =>
  simp only [Bool.false_eq_true, if_false]
  cases h1 : begB sshP s with
  | true =>
   simp only [if_true]
   cases h2 : verB s with
   | true => simp only [if_true]; exact proc_v h s hs hg h0 h1 h2 eo
   | false => simp only [Bool.false_eq_true, if_false]; exact proc_w h s hs hg h0 h1 h2 eo
  | false =>
   simp only [Bool.false_eq_true, if_false]
   by_cases h3 : h.c = false ∨ h.g = 16
   ·rw [if_pos h3, if_pos h3]
    by_cases h5 : h.c = false
    ·exact proc_c h s hs hg h0 h1 h5 eo
    ·exact proc_g h s hs hg h0 h1 (by simpa using h5) (h3.resolve_left h5) eo
   ·rw [if_neg h3, if_neg h3]
    exact proc_m h s hs hg h0 h1 (by have := fun e => h3 (.inl e); simpa using this) (fun e => h3 (.inr e)) eo
end Go.Proofs.YteefpaiefphdpaaDoor
namespace Go.Proofs.YteefpaiefphdpaaDoor
open Go.RowKit
theorem piece_len (h : HD) (s : List UInt8) : (pieceD h s).length = min (255 - h.p.length) s.length := by unfold pieceD; simp
theorem piece_take (h : HD) (s : List UInt8) : s.take (pieceD h s).length = pieceD h s := by
  rw [piece_len]; unfold pieceD
  rw [List.take_eq_take_iff]; omega
theorem line_take (l : List UInt8) : (l.drop 0).take (crB l).length = crB l := by rw [List.drop_zero]; exact crB_take l
theorem cut_pos {s : List UInt8} (h : ¬ cutB 10 s = []) : 0 < (cutB 10 s).length := List.length_pos_iff.2 h
set_option maxRecDepth 100000 in
theorem hsfx_nil (e2 : Nat) : Meets Tryd.prog 145 [.nilsl, .sl 501 0 1 1] [(501, some ⟨.aggB [13], e2, false⟩)] (.bool false) [] := by
 refine meets_of_ev (nt := 21) Tryd.func145 rfl rfl (Nat.le_of_ble_eq_true rfl) ?_
 refine .seq ?_
 refine .region ?_
 refine .q (op_assign rfl) trivial rfl ?_
 refine .nil ?_
 show Ev _ _ _ _ _
 refine .seq ?_
 refine .region ?_
 refine .q (op_move rfl) trivial rfl ?_
 refine .q (op_len_nil Tryd.underlying32 rfl) trivial rfl ?_
 refine .q (op_move rfl) trivial rfl ?_
 refine .q (op_len_sl Tryd.underlying32 rfl) trivial rfl ?_
 refine .q (op_cmpI rfl rfl rfl) trivial rfl ?_
 refine .q (op_move rfl) trivial rfl ?_
 refine .know (b' := false) (rfl) ?_
 refine .no ⟨_, rfl, rfl⟩ rfl ?_
 refine .no ⟨_, rfl, rfl⟩ rfl ?_
 refine .no ⟨_, rfl, rfl⟩ rfl ?_
 refine .no ⟨_, rfl, rfl⟩ rfl ?_
 refine .no ⟨_, rfl, rfl⟩ rfl ?_
 refine .no ⟨_, rfl, rfl⟩ rfl ?_
 refine .no ⟨_, rfl, rfl⟩ rfl ?_
 refine .no ⟨_, rfl, rfl⟩ rfl ?_
 refine .no ⟨_, rfl, rfl⟩ rfl ?_
 refine .q (op_pick_false rfl rfl rfl) trivial rfl ?_
 refine .q (op_assign rfl) trivial rfl ?_
 refine .nil ?_
 show Ev _ _ _ _ _
 refine .ret ?_
 show RetOk _ _ _ _ _ _ _
 exact ret1v rfl (.inl rfl) rfl rfl trivial
set_option maxRecDepth 100000 in
theorem trimsfx_nil (e2 : Nat) : Meets Tryd.prog 112 [.nilsl, .sl 501 0 1 1] [(501, some ⟨.aggB [13], e2, false⟩)] .nilsl [] := by
 refine meets_of_ev (nt := 16) Tryd.func112 rfl rfl (Nat.le_of_ble_eq_true rfl) ?_
 refine .seq ?_
 refine .region ?_
 refine .q (op_assign rfl) trivial rfl ?_
 refine .nil ?_
 show Ev _ _ _ _ _
 refine .seq ?_
 refine .seq ?_
 refine .region ?_
 refine .q (op_move rfl) trivial rfl ?_
 refine .q (op_move rfl) trivial rfl ?_
 refine .q (op_call (U := []) [(501, 501)] [] (hsfx_nil e2) Tryd.func145 (by kernel_rfl) rfl rfl rfl (⟨⟨_, rfl, rfl, rfl⟩, ⟨_, rfl, rfl, rfl⟩, trivial⟩) (⟨⟨_, _, rfl, rfl, rfl, rfl, (fun h => by cases h), rfl⟩, trivial⟩) (trivial) (⟨(fun h => by cases h), trivial⟩) rfl) trivial rfl ?_
 refine .nil ?_
 show Ev _ _ _ _ _
 refine .cond_false rfl (rfl) ?_
 refine .skip ?_
 show Ev _ _ _ _ _
 refine .seq ?_
 refine .region ?_
 refine .q (op_move rfl) trivial rfl ?_
 refine .q (op_assign rfl) trivial rfl ?_
 refine .nil ?_
 show Ev _ _ _ _ _
 refine .ret ?_
 show RetOk _ _ _ _ _ _ _
 exact ret1v rfl (.inl rfl) rfl rfl trivial
set_option maxRecDepth 100000 in
theorem done_n (h : HD) (eo : Nat → Nat × Nat) : Meets Tryd.prog 30 [.ptr 500 0] [(500, some ⟨.agg [.bool (h).c, .nilsl, .i64 (((h).g : Nat) : Int), .str (h).v, .err 225 ((h).e) (offE eo ((h).e))], 115, false⟩)] (.bool (h.v != [])) [(500, some ⟨.agg [.bool (h).c, .nilsl, .i64 (((h).g : Nat) : Int), .str (h).v, .err 225 ((h).e) (offE eo ((h).e))], 115, false⟩)] := by
 refine meets_of_ev (nt := 8) Tryd.func30 rfl rfl (Nat.le_of_ble_eq_true rfl) ?_
 refine .seq ?_
 refine .region ?_
 refine .q (op_assign rfl) trivial rfl ?_
 refine .nil ?_
 show Ev _ _ _ _ _
 refine .seq ?_
 refine .region ?_
 refine .q (op_move rfl) trivial rfl ?_
 refine .q (op_nilCheck rfl) trivial rfl ?_
 refine .q (op_fieldAddr (m := 0) Tryd.underlying115 rfl (by kernel_rfl) rfl) trivial rfl ?_
 refine .as (.ptr 500 3) rfl ?_
 refine .q (op_load Tryd.underlying9 rfl rfl rfl rfl (by show 3 < 5; decide)) trivial rfl ?_
 refine .q (op_eqS rfl rfl rfl) trivial rfl ?_
 refine .q (op_assign rfl) trivial rfl ?_
 refine .nil ?_
 show Ev _ _ _ _ _
 refine .ret ?_
 show RetOk _ _ _ _ _ _ _
 exact ret1v rfl (.inl rfl) rfl rfl ⟨rfl, trivial⟩
set_option maxRecDepth 100000 in
theorem done_s (h : HD) (eo : Nat → Nat × Nat) : Meets Tryd.prog 30 [.ptr 500 0] [(500, some ⟨.agg [.bool (h).c, .sl 501 0 h.p.length 1, .i64 (((h).g : Nat) : Int), .str (h).v, .err 225 ((h).e) (offE eo ((h).e))], 115, false⟩)] (.bool (h.v != [])) [(500, some ⟨.agg [.bool (h).c, .sl 501 0 h.p.length 1, .i64 (((h).g : Nat) : Int), .str (h).v, .err 225 ((h).e) (offE eo ((h).e))], 115, false⟩)] := by
 refine meets_of_ev (nt := 8) Tryd.func30 rfl rfl (Nat.le_of_ble_eq_true rfl) ?_
 refine .seq ?_
 refine .region ?_
 refine .q (op_assign rfl) trivial rfl ?_
 refine .nil ?_
 show Ev _ _ _ _ _
 refine .seq ?_
 refine .region ?_
 refine .q (op_move rfl) trivial rfl ?_
 refine .q (op_nilCheck rfl) trivial rfl ?_
 refine .q (op_fieldAddr (m := 0) Tryd.underlying115 rfl (by kernel_rfl) rfl) trivial rfl ?_
 refine .as (.ptr 500 3) rfl ?_
 refine .q (op_load Tryd.underlying9 rfl rfl rfl rfl (by show 3 < 5; decide)) trivial rfl ?_
 refine .q (op_eqS rfl rfl rfl) trivial rfl ?_
 refine .q (op_assign rfl) trivial rfl ?_
 refine .nil ?_
 show Ev _ _ _ _ _
 refine .ret ?_
 show RetOk _ _ _ _ _ _ _
 exact ret1v rfl (.inl rfl) rfl rfl ⟨rfl, trivial⟩
set_option maxRecDepth 100000 in
theorem peer_n (h : HD) (eo : Nat → Nat × Nat) : Meets Tryd.prog 32 [.ptr 500 0] [(500, some ⟨.agg [.bool (h).c, .nilsl, .i64 (((h).g : Nat) : Int), .str (h).v, .err 225 ((h).e) (offE eo ((h).e))], 115, false⟩)] (.str h.v) [(500, some ⟨.agg [.bool (h).c, .nilsl, .i64 (((h).g : Nat) : Int), .str (h).v, .err 225 ((h).e) (offE eo ((h).e))], 115, false⟩)] := by
 refine meets_of_ev (nt := 7) Tryd.func32 rfl rfl (Nat.le_of_ble_eq_true rfl) ?_
 refine .seq ?_
 refine .region ?_
 refine .q (op_assign rfl) trivial rfl ?_
 refine .nil ?_
 show Ev _ _ _ _ _
 refine .seq ?_
 refine .region ?_
 refine .q (op_move rfl) trivial rfl ?_
 refine .q (op_nilCheck rfl) trivial rfl ?_
 refine .q (op_fieldAddr (m := 0) Tryd.underlying115 rfl (by kernel_rfl) rfl) trivial rfl ?_
 refine .as (.ptr 500 3) rfl ?_
 refine .q (op_load Tryd.underlying9 rfl rfl rfl rfl (by show 3 < 5; decide)) trivial rfl ?_
 refine .q (op_assign rfl) trivial rfl ?_
 refine .nil ?_
 show Ev _ _ _ _ _
 refine .ret ?_
 show RetOk _ _ _ _ _ _ _
 exact ret1v rfl (.inl rfl) rfl rfl ⟨rfl, trivial⟩
set_option maxRecDepth 100000 in
theorem peer_s (h : HD) (eo : Nat → Nat × Nat) : Meets Tryd.prog 32 [.ptr 500 0] [(500, some ⟨.agg [.bool (h).c, .sl 501 0 h.p.length 1, .i64 (((h).g : Nat) : Int), .str (h).v, .err 225 ((h).e) (offE eo ((h).e))], 115, false⟩)] (.str h.v) [(500, some ⟨.agg [.bool (h).c, .sl 501 0 h.p.length 1, .i64 (((h).g : Nat) : Int), .str (h).v, .err 225 ((h).e) (offE eo ((h).e))], 115, false⟩)] := by
 refine meets_of_ev (nt := 7) Tryd.func32 rfl rfl (Nat.le_of_ble_eq_true rfl) ?_
 refine .seq ?_
 refine .region ?_
 refine .q (op_assign rfl) trivial rfl ?_
 refine .nil ?_
 show Ev _ _ _ _ _
 refine .seq ?_
 refine .region ?_
 refine .q (op_move rfl) trivial rfl ?_
 refine .q (op_nilCheck rfl) trivial rfl ?_
 refine .q (op_fieldAddr (m := 0) Tryd.underlying115 rfl (by kernel_rfl) rfl) trivial rfl ?_
 refine .as (.ptr 500 3) rfl ?_
 refine .q (op_load Tryd.underlying9 rfl rfl rfl rfl (by show 3 < 5; decide)) trivial rfl ?_
 refine .q (op_assign rfl) trivial rfl ?_
 refine .nil ?_
 show Ev _ _ _ _ _
 refine .ret ?_
 show RetOk _ _ _ _ _ _ _
 exact ret1v rfl (.inl rfl) rfl rfl ⟨rfl, trivial⟩
set_option maxRecDepth 100000 in
theorem hnew_ev (c : Bool) (eo : Nat → Nat × Nat) : Meets Tryd.prog 27 [.bool c] [] (.ptr 1000 0) [(1000, some ⟨.agg [.bool (HD.mk c [] 0 [] 0).c, .nilsl, .i64 (((HD.mk c [] 0 [] 0).g : Nat) : Int), .str (HD.mk c [] 0 [] 0).v, .err 225 ((HD.mk c [] 0 [] 0).e) (offE eo ((HD.mk c [] 0 [] 0).e))], 115, true⟩)] := by
 refine meets_of_ev (nt := 6) Tryd.func27 rfl rfl (Nat.le_of_ble_eq_true rfl) ?_
 refine .seq ?_
 refine .region ?_
 refine .q (op_assign rfl) trivial rfl ?_
 refine .nil ?_
 show Ev _ _ _ _ _
 refine .seq ?_
 refine .region ?_
 refine .q (op_move rfl) trivial rfl ?_
 refine .q (op_buildS (r := .agg [.bool (HD.mk c [] 0 [] 0).c, .nilsl, .i64 (((HD.mk c [] 0 [] 0).g : Nat) : Int), .str (HD.mk c [] 0 [] 0).v, .err 225 ((HD.mk c [] 0 [] 0).e) (offE eo ((HD.mk c [] 0 [] 0).e))]) Tryd.underlying115 rfl zero115 rel_zero115 rfl rfl rfl rfl) trivial rfl ?_
 refine .a (op_boxRow rfl rfl) trivial rfl ?_
 refine .q (op_assign rfl) trivial rfl ?_
 refine .nil ?_
 show Ev _ _ _ _ _
 refine .ret ?_
 show RetOk _ _ _ _ _ _ _
 exact ret1v rfl (.inl rfl) rfl rfl ⟨rfl, trivial⟩
set_option maxRecDepth 100000 in
theorem hline_y (s : List UInt8) (hs : s.length ≤ 100000) (h : softOk s = true) (eo : Nat → Nat × Nat) : Meets Tryd.prog 33 [.str s] [(3, some ⟨.agg [.err 225 (1) (offE eo (1))], errT, false⟩)] (.tup [.str (ssh2 ++ s ++ [13, 10]), .err 225 (0) (offE eo (0))]) [] := by
 refine meets_of_ev (nt := 11) Tryd.func33 rfl rfl (Nat.le_of_ble_eq_true rfl) ?_
 refine .seq ?_
 refine .region ?_
 refine .q (op_assign rfl) trivial rfl ?_
 refine .q (op_assign rfl) trivial rfl ?_
 refine .asR (.err 225 0 (offE eo 0)) (nil_err _ _) ?_
 refine .nil ?_
 show Ev _ _ _ _ _
 refine .seq ?_
 refine .seq ?_
 refine .region ?_
 refine .q (op_move rfl) trivial rfl ?_
 refine .q (op_call (U := []) [] [] (issoft_ev s (by omega)) Tryd.func72 (by kernel_rfl) rfl rfl rfl (⟨⟨_, rfl, rfl, rfl⟩, trivial⟩) (trivial) (trivial) (trivial) rfl) trivial rfl ?_
 refine .q (op_notB rfl) trivial rfl ?_
 refine .nil ?_
 show Ev _ _ _ _ _
 refine .cond_false rfl (by rw [h]; rfl) ?_
 refine .skip ?_
 show Ev _ _ _ _ _
 refine .seq ?_
 refine .region ?_
 refine .q (op_move rfl) trivial rfl ?_
 refine .q (op_addS rfl rfl (by simp; omega)) trivial rfl ?_
 refine .q (op_addS rfl rfl (by simp; omega)) trivial rfl ?_
 refine .q (op_assign rfl) trivial rfl ?_
 refine .q (op_assign rfl) trivial rfl ?_
 refine .asR (.err 225 0 (offE eo 0)) (nil_err _ _) ?_
 refine .nil ?_
 show Ev _ _ _ _ _
 refine .ret ?_
 show RetOk _ _ _ _ _ _ _
 exact ret2v rfl (.inl rfl) rfl rfl rfl rfl trivial
set_option maxRecDepth 100000 in
theorem hline_n (s : List UInt8) (hs : s.length ≤ 100000) (h : softOk s = false) (eo : Nat → Nat × Nat) : Meets Tryd.prog 33 [.str s] [(3, some ⟨.agg [.err 225 (1) (offE eo (1))], errT, false⟩)] (.tup [.str [], .err 225 (1) (offE eo (1))]) [] := by
 refine meets_of_ev (nt := 11) Tryd.func33 rfl rfl (Nat.le_of_ble_eq_true rfl) ?_
 refine .seq ?_
 refine .region ?_
 refine .q (op_assign rfl) trivial rfl ?_
 refine .q (op_assign rfl) trivial rfl ?_
 refine .asR (.err 225 0 (offE eo 0)) (nil_err _ _) ?_
 refine .nil ?_
 show Ev _ _ _ _ _
 refine .seq ?_
 refine .seq ?_
 refine .region ?_
 refine .q (op_move rfl) trivial rfl ?_
 refine .q (op_call (U := []) [] [] (issoft_ev s (by omega)) Tryd.func72 (by kernel_rfl) rfl rfl rfl (⟨⟨_, rfl, rfl, rfl⟩, trivial⟩) (trivial) (trivial) (trivial) rfl) trivial rfl ?_
 refine .q (op_notB rfl) trivial rfl ?_
 refine .nil ?_
 show Ev _ _ _ _ _
 refine .cond_true rfl (by rw [h]; rfl) ?_
 refine .seq ?_
 refine .drawn [[], [], [0, 1]] [0] [] (by kernel_rfl) (by kernel_rfl) rfl ?_
 show DK _ [0, 1, 2] _ _ _
 refine .q rfl (op_load Tryd.underlying26 rfl rfl rfl rfl (by first | omega | (simp only [AV.len]; omega) | (simp only [AV.len]; omega) | assumption | (simp [AV.len]; done))) trivial ?_
 refine .q rfl (op_assign rfl) trivial ?_
 refine .q rfl (op_assign rfl) trivial ?_
 refine .nil ?_
 show Ev _ _ _ _ _
 refine .ret ?_
 show RetOk _ _ _ _ _ _ _
 exact ret2v rfl (.inl rfl) rfl rfl rfl rfl trivial
set_option maxRecDepth 100000 in
theorem read_nA (h : HD) (s : List UInt8) (hs : s.length ≤ 9000000) (hg : h.g ≤ 16) (_hp9 : h.p.length ≤ 254) (hs0 : 0 < s.length) (hp : h.p = []) (hc : (pieceD h s).contains 10 = true) (ht : (cutB 10 (pieceD h s)) = [])  (eo : Nat → Nat × Nat) : Meets Tryd.prog 71 [.ptr 500 0, .str s] [(500, some ⟨.agg [.bool (h).c, .nilsl, .i64 (((h).g : Nat) : Int), .str (h).v, .err 225 ((h).e) (offE eo ((h).e))], 115, true⟩), (0, some ⟨.agg [.err 225 (3) (offE eo (3))], errT, false⟩), (4, some ⟨.agg [.err 225 (4) (offE eo (4))], errT, false⟩), (11, some ⟨.agg [.err 225 (12) (offE eo (12))], errT, false⟩)] (.str (s.drop ((cutB 10 (pieceD h s)).length + 1))) [(500, some ⟨.agg [.bool ({ procH { h with p := [] } (lineD h s) with e := procE { h with p := [] } (lineD h s) }).c, .nilsl, .i64 ((({ procH { h with p := [] } (lineD h s) with e := procE { h with p := [] } (lineD h s) }).g : Nat) : Int), .str ({ procH { h with p := [] } (lineD h s) with e := procE { h with p := [] } (lineD h s) }).v, .err 225 (({ procH { h with p := [] } (lineD h s) with e := procE { h with p := [] } (lineD h s) }).e) (offE eo (({ procH { h with p := [] } (lineD h s) with e := procE { h with p := [] } (lineD h s) }).e))], 115, true⟩)] := by
 have hpl := piece_len h s
 have hcl := cutB_le 10 (pieceD h s)
 have hp0 : h.p.length = 0 := by rw [hp]; rfl
 have hp1 : 0 < (pieceD h s).length := by omega
 refine meets_of_ev (nt := 72) Tryd.func71 rfl rfl (Nat.le_of_ble_eq_true rfl) ?_
 refine .seq ?_
 refine .region ?_
 refine .q (op_assign rfl) trivial rfl ?_
 refine .nil ?_
 show Ev _ _ _ _ _
 refine .seq ?_
 refine .region ?_
 refine .q (op_move rfl) trivial rfl ?_
 refine .q (op_move rfl) trivial rfl ?_
 refine .q (op_len_str Tryd.underlying9 rfl) trivial rfl ?_
 refine .q (op_move rfl) trivial rfl ?_
 refine .q (op_nilCheck rfl) trivial rfl ?_
 refine .q (op_fieldAddr (m := 0) Tryd.underlying115 rfl (by kernel_rfl) rfl) trivial rfl ?_
 refine .as (.ptr 500 1) rfl ?_
 refine .q (op_load Tryd.underlying32 rfl rfl rfl rfl (by show 1 < 5; decide)) trivial rfl ?_
 refine .q (op_len_nil Tryd.underlying32 rfl) trivial rfl ?_
 refine .q (op_subI rfl rfl ⟨by omega, by omega⟩) trivial rfl ?_
 refine .q (op_minI rfl rfl) trivial rfl ?_
 refine .q (ap_slice_str_hi Tryd.underlying9 rfl (bnd_some rfl (l := (pieceD h s).length) (by rw [hpl]; omega)) (by omega)) trivial rfl ?_
 refine .as (.str (pieceD h s)) (congrArg AV.str (piece_take h s)) ?_
 refine .q (op_assign rfl) trivial rfl ?_
 refine .nil ?_
 show Ev _ _ _ _ _
 refine .seq ?_
 refine .region ?_
 refine .q (op_move rfl) trivial rfl ?_
 refine .q (op_call (U := []) [] [] (scuts_y (pieceD h s) 10 (by omega) hc) Tryd.func111 (by kernel_rfl) rfl rfl rfl (⟨⟨_, rfl, rfl, rfl⟩, ⟨_, rfl, rfl, rfl⟩, trivial⟩) (trivial) (trivial) (trivial) rfl) trivial rfl ?_
 refine .q (op_move rfl) trivial rfl ?_
 refine .q (op_extract rfl rfl) trivial rfl ?_
 refine .q (op_extract rfl rfl) trivial rfl ?_
 refine .q (op_extract rfl rfl) trivial rfl ?_
 refine .q (op_assign rfl) trivial rfl ?_
 refine .q (op_assign rfl) trivial rfl ?_
 refine .q (op_assign rfl) trivial rfl ?_
 refine .nil ?_
 show Ev _ _ _ _ _
 refine .seq ?_
 refine .region ?_
 refine .q (op_move rfl) trivial rfl ?_
 refine .q (op_move rfl) trivial rfl ?_
 refine .q (op_nilCheck rfl) trivial rfl ?_
 refine .q (op_fieldAddr (m := 0) Tryd.underlying115 rfl (by kernel_rfl) rfl) trivial rfl ?_
 refine .as (.ptr 500 1) rfl ?_
 refine .q (op_load Tryd.underlying32 rfl rfl rfl rfl (by show 1 < 5; decide)) trivial rfl ?_
 refine .q (op_move rfl) trivial rfl ?_
 refine .as (.str []) (congrArg AV.str ht) ?_
 refine .q (op_catS_nil0 Tryd.underlying32 inf5 Tryd.underlying9 rfl rfl) trivial rfl ?_
 refine .q (op_nilCheck rfl) trivial rfl ?_
 refine .q (op_fieldAddr (m := 0) Tryd.underlying115 rfl (by kernel_rfl) rfl) trivial rfl ?_
 refine .as (.ptr 500 1) rfl ?_
 refine .w (op_store (by kernel_rfl) rfl rfl rfl rfl rfl (by show 1 < 5; decide)) trivial rfl ?_
 refine .nil ?_
 show Ev _ _ _ _ _
 refine .seq ?_
 refine .seq ?_
 refine .region ?_
 refine .q (op_move rfl) trivial rfl ?_
 refine .nil ?_
 show Ev _ _ _ _ _
 refine .cond_true rfl (rfl) ?_
 refine .seq ?_
 refine .region ?_
 refine .q (op_move rfl) trivial rfl ?_
 refine .q (op_nilCheck rfl) trivial rfl ?_
 refine .q (op_fieldAddr (m := 0) Tryd.underlying115 rfl (by kernel_rfl) rfl) trivial rfl ?_
 refine .as (.ptr 500 1) rfl ?_
 refine .q (op_load Tryd.underlying32 rfl rfl rfl rfl (by show 1 < 5; decide)) trivial rfl ?_
 refine .a (ap_build (us := [_]) (c := .aggB [_]) Tryd.underlying32 inf5 rfl (by decide) (by decide) ⟨rfl, rfl, rfl, trivial⟩ rfl) trivial rfl ?_
 refine .a (op_mark Tryd.underlying32 Tryd.underlying5 rfl (by first | omega | (simp only [AV.len]; omega) | (simp only [AV.len, List.length_set]; omega) | assumption | (simp [AV.len]; done)) rfl rfl) trivial rfl ?_
 refine .q (op_call (U := []) [(501, 1000)] [] (trimsfx_nil 5) Tryd.func112 (by kernel_rfl) rfl rfl rfl (⟨⟨_, rfl, rfl, rfl⟩, ⟨_, rfl, rfl, rfl⟩, trivial⟩) (⟨⟨_, _, rfl, rfl, rfl, rfl, (fun h => by cases h), rfl⟩, trivial⟩) (trivial) (⟨(fun h => by cases h), trivial⟩) rfl) trivial rfl ?_
 refine .q (op_nil_str Tryd.underlying32 Tryd.underlying5 Tryd.underlying9 rfl) trivial rfl ?_
 refine .as (.str (lineD h s)) (congrArg AV.str (by unfold lineD; rw [hp, ht]; rfl)) ?_
 refine .q (op_assign rfl) trivial rfl ?_
 refine .nil ?_
 show Ev _ _ _ _ _
 refine .seq ?_
 refine .region ?_
 refine .q (op_move rfl) trivial rfl ?_
 refine .q (op_nilCheck rfl) trivial rfl ?_
 refine .q (op_fieldAddr (m := 0) Tryd.underlying115 rfl (by kernel_rfl) rfl) trivial rfl ?_
 refine .as (.ptr 500 1) rfl ?_
 refine .w (op_store (by kernel_rfl) rfl rfl rfl rfl rfl (by show 1 < 5; decide)) trivial rfl ?_
 refine .nil ?_
 show Ev _ _ _ _ _
 refine .seq ?_
 refine .region ?_
 refine .q (op_move rfl) trivial rfl ?_
 refine .q (op_move rfl) trivial rfl ?_
 refine .q (op_move rfl) trivial rfl ?_
 refine .a (op_call (U := [(500, some ⟨.agg [.bool (procH { h with p := [] } (lineD h s)).c, .nilsl, .i64 (((procH { h with p := [] } (lineD h s)).g : Nat) : Int), .str (procH { h with p := [] } (lineD h s)).v, .err 225 ((procH { h with p := [] } (lineD h s)).e) (offE eo ((procH { h with p := [] } (lineD h s)).e))], 115, true⟩)]) [(500, 500)] [] (proc_ev { h with p := [] } (lineD h s) (by unfold lineD; have := crB_le (h.p ++ (cutB 10 (pieceD h s))); have := cutB_le 10 (pieceD h s); simp only [List.length_append] at *; omega) hg eo) Tryd.func113 (by kernel_rfl) rfl rfl rfl (⟨⟨_, rfl, rfl, rfl⟩, ⟨_, rfl, rfl, rfl⟩, trivial⟩) (⟨⟨_, _, rfl, rfl, rfl, rfl, id, rfl⟩, ⟨_, _, rfl, rfl, rfl, rfl, (fun h => by cases h), rfl⟩, ⟨_, _, rfl, rfl, rfl, rfl, (fun h => by cases h), rfl⟩, trivial⟩) (⟨⟨500, _, rfl, rfl, rfl, rfl, .inr ⟨rfl, _, rfl, rfl⟩⟩, trivial⟩) (⟨(fun _ => ⟨500, _, rfl, rfl⟩), (fun h => by cases h), (fun h => by cases h), trivial⟩) rfl) trivial rfl ?_
 refine .q (op_nilCheck rfl) trivial rfl ?_
 refine .q (op_fieldAddr (m := 0) Tryd.underlying115 rfl (by kernel_rfl) rfl) trivial rfl ?_
 refine .as (.ptr 500 4) rfl ?_
 refine .w (op_store (by kernel_rfl) rfl rfl rfl rfl rfl (by show 4 < 5; decide)) trivial rfl ?_
 refine .nil ?_
 show Ev _ _ _ _ _
 refine .seq ?_
 refine .region ?_
 refine .q (op_move rfl) trivial rfl ?_
 refine .q (op_move rfl) trivial rfl ?_
 refine .q (op_len_str Tryd.underlying9 rfl) trivial rfl ?_
 refine .q (op_addI rfl rfl ⟨by have := cut_lt 10 (pieceD h s) hc; omega, by have := cut_lt 10 (pieceD h s) hc; omega⟩) trivial rfl ?_
 refine .q (ap_slice_str_lo Tryd.underlying9 rfl (bnd_some rfl (l := (cutB 10 (pieceD h s)).length + 1) rfl) (by have := cut_lt 10 (pieceD h s) hc; omega)) trivial rfl ?_
 refine .q (op_assign rfl) trivial rfl ?_
 refine .nil ?_
 show Ev _ _ _ _ _
 refine .ret ?_
 show RetOk _ _ _ _ _ _ _
 exact ret1v rfl (.inl rfl) rfl rfl ⟨rfl, trivial⟩
set_option maxRecDepth 100000 in
theorem read_nB (h : HD) (s : List UInt8) (hs : s.length ≤ 9000000) (hg : h.g ≤ 16) (_hp9 : h.p.length ≤ 254) (hs0 : 0 < s.length) (hp : h.p = []) (hc : (pieceD h s).contains 10 = true) (ht : ¬ (cutB 10 (pieceD h s)) = [])  (eo : Nat → Nat × Nat) : Meets Tryd.prog 71 [.ptr 500 0, .str s] [(500, some ⟨.agg [.bool (h).c, .nilsl, .i64 (((h).g : Nat) : Int), .str (h).v, .err 225 ((h).e) (offE eo ((h).e))], 115, true⟩), (0, some ⟨.agg [.err 225 (3) (offE eo (3))], errT, false⟩), (4, some ⟨.agg [.err 225 (4) (offE eo (4))], errT, false⟩), (11, some ⟨.agg [.err 225 (12) (offE eo (12))], errT, false⟩)] (.str (s.drop ((cutB 10 (pieceD h s)).length + 1))) [(500, some ⟨.agg [.bool ({ procH { h with p := [] } (lineD h s) with e := procE { h with p := [] } (lineD h s) }).c, .nilsl, .i64 ((({ procH { h with p := [] } (lineD h s) with e := procE { h with p := [] } (lineD h s) }).g : Nat) : Int), .str ({ procH { h with p := [] } (lineD h s) with e := procE { h with p := [] } (lineD h s) }).v, .err 225 (({ procH { h with p := [] } (lineD h s) with e := procE { h with p := [] } (lineD h s) }).e) (offE eo (({ procH { h with p := [] } (lineD h s) with e := procE { h with p := [] } (lineD h s) }).e))], 115, true⟩)] := by
 have hpl := piece_len h s
 have hcl := cutB_le 10 (pieceD h s)
 have hcp := cut_pos ht
 have hp0 : h.p.length = 0 := by rw [hp]; rfl
 have hp1 : 0 < (pieceD h s).length := by omega
 refine meets_of_ev (nt := 72) Tryd.func71 rfl rfl (Nat.le_of_ble_eq_true rfl) ?_
 refine .seq ?_
 refine .region ?_
 refine .q (op_assign rfl) trivial rfl ?_
 refine .nil ?_
 show Ev _ _ _ _ _
 refine .seq ?_
 refine .region ?_
 refine .q (op_move rfl) trivial rfl ?_
 refine .q (op_move rfl) trivial rfl ?_
 refine .q (op_len_str Tryd.underlying9 rfl) trivial rfl ?_
 refine .q (op_move rfl) trivial rfl ?_
 refine .q (op_nilCheck rfl) trivial rfl ?_
 refine .q (op_fieldAddr (m := 0) Tryd.underlying115 rfl (by kernel_rfl) rfl) trivial rfl ?_
 refine .as (.ptr 500 1) rfl ?_
 refine .q (op_load Tryd.underlying32 rfl rfl rfl rfl (by show 1 < 5; decide)) trivial rfl ?_
 refine .q (op_len_nil Tryd.underlying32 rfl) trivial rfl ?_
 refine .q (op_subI rfl rfl ⟨by omega, by omega⟩) trivial rfl ?_
 refine .q (op_minI rfl rfl) trivial rfl ?_
 refine .q (ap_slice_str_hi Tryd.underlying9 rfl (bnd_some rfl (l := (pieceD h s).length) (by rw [hpl]; omega)) (by omega)) trivial rfl ?_
 refine .as (.str (pieceD h s)) (congrArg AV.str (piece_take h s)) ?_
 refine .q (op_assign rfl) trivial rfl ?_
 refine .nil ?_
 show Ev _ _ _ _ _
 refine .seq ?_
 refine .region ?_
 refine .q (op_move rfl) trivial rfl ?_
 refine .q (op_call (U := []) [] [] (scuts_y (pieceD h s) 10 (by omega) hc) Tryd.func111 (by kernel_rfl) rfl rfl rfl (⟨⟨_, rfl, rfl, rfl⟩, ⟨_, rfl, rfl, rfl⟩, trivial⟩) (trivial) (trivial) (trivial) rfl) trivial rfl ?_
 refine .q (op_move rfl) trivial rfl ?_
 refine .q (op_extract rfl rfl) trivial rfl ?_
 refine .q (op_extract rfl rfl) trivial rfl ?_
 refine .q (op_extract rfl rfl) trivial rfl ?_
 refine .q (op_assign rfl) trivial rfl ?_
 refine .q (op_assign rfl) trivial rfl ?_
 refine .q (op_assign rfl) trivial rfl ?_
 refine .nil ?_
 show Ev _ _ _ _ _
 refine .seq ?_
 refine .region ?_
 refine .q (op_move rfl) trivial rfl ?_
 refine .q (op_move rfl) trivial rfl ?_
 refine .q (op_nilCheck rfl) trivial rfl ?_
 refine .q (op_fieldAddr (m := 0) Tryd.underlying115 rfl (by kernel_rfl) rfl) trivial rfl ?_
 refine .as (.ptr 500 1) rfl ?_
 refine .q (op_load Tryd.underlying32 rfl rfl rfl rfl (by show 1 < 5; decide)) trivial rfl ?_
 refine .q (op_move rfl) trivial rfl ?_
 refine .a (ap_catS_nil Tryd.underlying32 inf5 Tryd.underlying9 rfl rfl (by omega) (by omega)) trivial rfl ?_
 refine .q (op_nilCheck rfl) trivial rfl ?_
 refine .q (op_fieldAddr (m := 0) Tryd.underlying115 rfl (by kernel_rfl) rfl) trivial rfl ?_
 refine .as (.ptr 500 1) rfl ?_
 refine .w (op_store (by kernel_rfl) rfl rfl rfl rfl rfl (by show 1 < 5; decide)) trivial rfl ?_
 refine .nil ?_
 show Ev _ _ _ _ _
 refine .seq ?_
 refine .seq ?_
 refine .region ?_
 refine .q (op_move rfl) trivial rfl ?_
 refine .nil ?_
 show Ev _ _ _ _ _
 refine .cond_true rfl (rfl) ?_
 refine .seq ?_
 refine .region ?_
 refine .q (op_move rfl) trivial rfl ?_
 refine .q (op_nilCheck rfl) trivial rfl ?_
 refine .q (op_fieldAddr (m := 0) Tryd.underlying115 rfl (by kernel_rfl) rfl) trivial rfl ?_
 refine .as (.ptr 500 1) rfl ?_
 refine .q (op_load Tryd.underlying32 rfl rfl rfl rfl (by show 1 < 5; decide)) trivial rfl ?_
 refine .a (ap_build (us := [_]) (c := .aggB [_]) Tryd.underlying32 inf5 rfl (by decide) (by decide) ⟨rfl, rfl, rfl, trivial⟩ rfl) trivial rfl ?_
 refine .a (op_mark Tryd.underlying32 Tryd.underlying5 rfl (by first | omega | (simp only [AV.len]; omega) | (simp only [AV.len, List.length_set]; omega) | assumption | (simp [AV.len]; done)) rfl rfl) trivial rfl ?_
 refine .q (op_call (U := []) [(500, 1000), (501, 1008)] [] (trimsfx_ev (cutB 10 (pieceD h s)) (5) 5 (by have := cutB_le 10 (pieceD h s); omega)) Tryd.func112 (by kernel_rfl) rfl rfl rfl (⟨⟨_, rfl, rfl, rfl⟩, ⟨_, rfl, rfl, rfl⟩, trivial⟩) (⟨⟨_, _, rfl, rfl, rfl, rfl, (fun h => by cases h), rfl⟩, ⟨_, _, rfl, rfl, rfl, rfl, (fun h => by cases h), rfl⟩, trivial⟩) (trivial) (⟨(fun h => by cases h), (fun h => by cases h), trivial⟩) rfl) trivial rfl ?_
 refine .q (op_bytes_str Tryd.underlying32 Tryd.underlying5 Tryd.underlying9 rfl rfl rfl (by have := crB_le (cutB 10 (pieceD h s)); omega)) trivial rfl ?_
 refine .as (.str (lineD h s)) (congrArg AV.str (by rw [line_take]; unfold lineD; rw [hp]; rfl)) ?_
 refine .q (op_assign rfl) trivial rfl ?_
 refine .nil ?_
 show Ev _ _ _ _ _
 refine .seq ?_
 refine .region ?_
 refine .q (op_move rfl) trivial rfl ?_
 refine .q (op_nilCheck rfl) trivial rfl ?_
 refine .q (op_fieldAddr (m := 0) Tryd.underlying115 rfl (by kernel_rfl) rfl) trivial rfl ?_
 refine .as (.ptr 500 1) rfl ?_
 refine .w (op_store (by kernel_rfl) rfl rfl rfl rfl rfl (by show 1 < 5; decide)) trivial rfl ?_
 refine .nil ?_
 show Ev _ _ _ _ _
 refine .seq ?_
 refine .region ?_
 refine .q (op_move rfl) trivial rfl ?_
 refine .q (op_move rfl) trivial rfl ?_
 refine .q (op_move rfl) trivial rfl ?_
 refine .a (op_call (U := [(500, some ⟨.agg [.bool (procH { h with p := [] } (lineD h s)).c, .nilsl, .i64 (((procH { h with p := [] } (lineD h s)).g : Nat) : Int), .str (procH { h with p := [] } (lineD h s)).v, .err 225 ((procH { h with p := [] } (lineD h s)).e) (offE eo ((procH { h with p := [] } (lineD h s)).e))], 115, true⟩)]) [(500, 500)] [] (proc_ev { h with p := [] } (lineD h s) (by unfold lineD; have := crB_le (h.p ++ (cutB 10 (pieceD h s))); have := cutB_le 10 (pieceD h s); simp only [List.length_append] at *; omega) hg eo) Tryd.func113 (by kernel_rfl) rfl rfl rfl (⟨⟨_, rfl, rfl, rfl⟩, ⟨_, rfl, rfl, rfl⟩, trivial⟩) (⟨⟨_, _, rfl, rfl, rfl, rfl, id, rfl⟩, ⟨_, _, rfl, rfl, rfl, rfl, (fun h => by cases h), rfl⟩, ⟨_, _, rfl, rfl, rfl, rfl, (fun h => by cases h), rfl⟩, trivial⟩) (⟨⟨500, _, rfl, rfl, rfl, rfl, .inr ⟨rfl, _, rfl, rfl⟩⟩, trivial⟩) (⟨(fun _ => ⟨500, _, rfl, rfl⟩), (fun h => by cases h), (fun h => by cases h), trivial⟩) rfl) trivial rfl ?_
 refine .q (op_nilCheck rfl) trivial rfl ?_
 refine .q (op_fieldAddr (m := 0) Tryd.underlying115 rfl (by kernel_rfl) rfl) trivial rfl ?_
 refine .as (.ptr 500 4) rfl ?_
 refine .w (op_store (by kernel_rfl) rfl rfl rfl rfl rfl (by show 4 < 5; decide)) trivial rfl ?_
 refine .nil ?_
 show Ev _ _ _ _ _
 refine .seq ?_
 refine .region ?_
 refine .q (op_move rfl) trivial rfl ?_
 refine .q (op_move rfl) trivial rfl ?_
 refine .q (op_len_str Tryd.underlying9 rfl) trivial rfl ?_
 refine .q (op_addI rfl rfl ⟨by have := cut_lt 10 (pieceD h s) hc; omega, by have := cut_lt 10 (pieceD h s) hc; omega⟩) trivial rfl ?_
 refine .q (ap_slice_str_lo Tryd.underlying9 rfl (bnd_some rfl (l := (cutB 10 (pieceD h s)).length + 1) rfl) (by have := cut_lt 10 (pieceD h s) hc; omega)) trivial rfl ?_
 refine .q (op_assign rfl) trivial rfl ?_
 refine .nil ?_
 show Ev _ _ _ _ _
 refine .ret ?_
 show RetOk _ _ _ _ _ _ _
 exact ret1v rfl (.inl rfl) rfl rfl ⟨rfl, trivial⟩
set_option maxRecDepth 100000 in
theorem read_nD (h : HD) (s : List UInt8) (hs : s.length ≤ 9000000) (_hg : h.g ≤ 16) (_hp9 : h.p.length ≤ 254) (hs0 : 0 < s.length) (hp : h.p = []) (hc : (pieceD h s).contains 10 = false) (hf : h.p.length + (pieceD h s).length = 255)  (eo : Nat → Nat × Nat) : Meets Tryd.prog 71 [.ptr 500 0, .str s] [(500, some ⟨.agg [.bool (h).c, .nilsl, .i64 (((h).g : Nat) : Int), .str (h).v, .err 225 ((h).e) (offE eo ((h).e))], 115, true⟩), (0, some ⟨.agg [.err 225 (3) (offE eo (3))], errT, false⟩), (4, some ⟨.agg [.err 225 (4) (offE eo (4))], errT, false⟩), (11, some ⟨.agg [.err 225 (12) (offE eo (12))], errT, false⟩)] (.str []) [(500, some ⟨.agg [.bool ({ h with p := [], e := 4 }).c, .nilsl, .i64 ((({ h with p := [], e := 4 }).g : Nat) : Int), .str ({ h with p := [], e := 4 }).v, .err 225 (({ h with p := [], e := 4 }).e) (offE eo (({ h with p := [], e := 4 }).e))], 115, true⟩)] := by
 have hpl := piece_len h s
 have hcl := cutB_le 10 (pieceD h s)
 have hp0 : h.p.length = 0 := by rw [hp]; rfl
 have hp1 : 0 < (pieceD h s).length := by omega
 refine meets_of_ev (nt := 72) Tryd.func71 rfl rfl (Nat.le_of_ble_eq_true rfl) ?_
 refine .seq ?_
 refine .region ?_
 refine .q (op_assign rfl) trivial rfl ?_
 refine .nil ?_
 show Ev _ _ _ _ _
 refine .seq ?_
 refine .region ?_
 refine .q (op_move rfl) trivial rfl ?_
 refine .q (op_move rfl) trivial rfl ?_
 refine .q (op_len_str Tryd.underlying9 rfl) trivial rfl ?_
 refine .q (op_move rfl) trivial rfl ?_
 refine .q (op_nilCheck rfl) trivial rfl ?_
 refine .q (op_fieldAddr (m := 0) Tryd.underlying115 rfl (by kernel_rfl) rfl) trivial rfl ?_
 refine .as (.ptr 500 1) rfl ?_
 refine .q (op_load Tryd.underlying32 rfl rfl rfl rfl (by show 1 < 5; decide)) trivial rfl ?_
 refine .q (op_len_nil Tryd.underlying32 rfl) trivial rfl ?_
 refine .q (op_subI rfl rfl ⟨by omega, by omega⟩) trivial rfl ?_
 refine .q (op_minI rfl rfl) trivial rfl ?_
 refine .q (ap_slice_str_hi Tryd.underlying9 rfl (bnd_some rfl (l := (pieceD h s).length) (by rw [hpl]; omega)) (by omega)) trivial rfl ?_
 refine .as (.str (pieceD h s)) (congrArg AV.str (piece_take h s)) ?_
 refine .q (op_assign rfl) trivial rfl ?_
 refine .nil ?_
 show Ev _ _ _ _ _
 refine .seq ?_
 refine .region ?_
 refine .q (op_move rfl) trivial rfl ?_
 refine .q (op_call (U := []) [] [] (scuts_n (pieceD h s) 10 (by omega) hc) Tryd.func111 (by kernel_rfl) rfl rfl rfl (⟨⟨_, rfl, rfl, rfl⟩, ⟨_, rfl, rfl, rfl⟩, trivial⟩) (trivial) (trivial) (trivial) rfl) trivial rfl ?_
 refine .q (op_move rfl) trivial rfl ?_
 refine .q (op_extract rfl rfl) trivial rfl ?_
 refine .q (op_extract rfl rfl) trivial rfl ?_
 refine .q (op_extract rfl rfl) trivial rfl ?_
 refine .q (op_assign rfl) trivial rfl ?_
 refine .q (op_assign rfl) trivial rfl ?_
 refine .q (op_assign rfl) trivial rfl ?_
 refine .nil ?_
 show Ev _ _ _ _ _
 refine .seq ?_
 refine .region ?_
 refine .q (op_move rfl) trivial rfl ?_
 refine .q (op_move rfl) trivial rfl ?_
 refine .q (op_nilCheck rfl) trivial rfl ?_
 refine .q (op_fieldAddr (m := 0) Tryd.underlying115 rfl (by kernel_rfl) rfl) trivial rfl ?_
 refine .as (.ptr 500 1) rfl ?_
 refine .q (op_load Tryd.underlying32 rfl rfl rfl rfl (by show 1 < 5; decide)) trivial rfl ?_
 refine .q (op_move rfl) trivial rfl ?_
 refine .a (ap_catS_nil Tryd.underlying32 inf5 Tryd.underlying9 rfl rfl (by omega) (by omega)) trivial rfl ?_
 refine .q (op_nilCheck rfl) trivial rfl ?_
 refine .q (op_fieldAddr (m := 0) Tryd.underlying115 rfl (by kernel_rfl) rfl) trivial rfl ?_
 refine .as (.ptr 500 1) rfl ?_
 refine .w (op_store (by kernel_rfl) rfl rfl rfl rfl rfl (by show 1 < 5; decide)) trivial rfl ?_
 refine .nil ?_
 show Ev _ _ _ _ _
 refine .seq ?_
 refine .seq ?_
 refine .region ?_
 refine .q (op_move rfl) trivial rfl ?_
 refine .nil ?_
 show Ev _ _ _ _ _
 refine .cond_false rfl (rfl) ?_
 refine .skip ?_
 show Ev _ _ _ _ _
 refine .seq ?_
 refine .seq ?_
 refine .region ?_
 refine .q (op_move rfl) trivial rfl ?_
 refine .q (op_nilCheck rfl) trivial rfl ?_
 refine .q (op_fieldAddr (m := 0) Tryd.underlying115 rfl (by kernel_rfl) rfl) trivial rfl ?_
 refine .as (.ptr 500 1) rfl ?_
 refine .q (op_load Tryd.underlying32 rfl rfl rfl rfl (by show 1 < 5; decide)) trivial rfl ?_
 refine .q (op_len_sl Tryd.underlying32 rfl) trivial rfl ?_
 refine .q (op_cmpI rfl rfl rfl) trivial rfl ?_
 refine .nil ?_
 show Ev _ _ _ _ _
 refine .cond_true rfl (beq_iff_eq.2 (by first | omega | (rw [List.length_append]; omega))) ?_
 refine .seq ?_
 refine .region ?_
 refine .q (op_move rfl) trivial rfl ?_
 refine .q (op_nilCheck rfl) trivial rfl ?_
 refine .q (op_fieldAddr (m := 0) Tryd.underlying115 rfl (by kernel_rfl) rfl) trivial rfl ?_
 refine .as (.ptr 500 1) rfl ?_
 refine .w (op_store (by kernel_rfl) rfl rfl rfl rfl rfl (by show 1 < 5; decide)) trivial rfl ?_
 refine .nil ?_
 show Ev _ _ _ _ _
 refine .region ?_
 refine .q (op_move rfl) trivial rfl ?_
 refine .q (op_load Tryd.underlying26 rfl rfl rfl rfl (by first | omega | (simp only [AV.len]; omega) | (simp only [AV.len]; omega) | assumption | (simp [AV.len]; done))) trivial rfl ?_
 refine .q (op_nilCheck rfl) trivial rfl ?_
 refine .q (op_fieldAddr (m := 0) Tryd.underlying115 rfl (by kernel_rfl) rfl) trivial rfl ?_
 refine .as (.ptr 500 4) rfl ?_
 refine .w (op_store (by kernel_rfl) rfl rfl rfl rfl rfl (by show 4 < 5; decide)) trivial rfl ?_
 refine .nil ?_
 show Ev _ _ _ _ _
 refine .seq ?_
 refine .region ?_
 refine .q (op_assign rfl) trivial rfl ?_
 refine .nil ?_
 show Ev _ _ _ _ _
 refine .ret ?_
 show RetOk _ _ _ _ _ _ _
 exact ret1v rfl (.inl rfl) rfl rfl ⟨rfl, trivial⟩
set_option maxRecDepth 100000 in
theorem read_nE (h : HD) (s : List UInt8) (hs : s.length ≤ 9000000) (_hg : h.g ≤ 16) (_hp9 : h.p.length ≤ 254) (hs0 : 0 < s.length) (hp : h.p = []) (hc : (pieceD h s).contains 10 = false) (hf : ¬ h.p.length + (pieceD h s).length = 255)  (eo : Nat → Nat × Nat) : Meets Tryd.prog 71 [.ptr 500 0, .str s] [(500, some ⟨.agg [.bool (h).c, .nilsl, .i64 (((h).g : Nat) : Int), .str (h).v, .err 225 ((h).e) (offE eo ((h).e))], 115, true⟩), (0, some ⟨.agg [.err 225 (3) (offE eo (3))], errT, false⟩), (4, some ⟨.agg [.err 225 (4) (offE eo (4))], errT, false⟩), (11, some ⟨.agg [.err 225 (12) (offE eo (12))], errT, false⟩)] (.str []) [(500, some ⟨.agg [.bool ({ h with p := (pieceD h s) }).c, .sl 1000 0 (pieceD h s).length 1, .i64 ((({ h with p := (pieceD h s) }).g : Nat) : Int), .str ({ h with p := (pieceD h s) }).v, .err 225 (({ h with p := (pieceD h s) }).e) (offE eo (({ h with p := (pieceD h s) }).e))], 115, true⟩), (1000, some ⟨.aggB ((pieceD h s)), 5, true⟩)] := by
 have hpl := piece_len h s
 have hcl := cutB_le 10 (pieceD h s)
 have hp0 : h.p.length = 0 := by rw [hp]; rfl
 have hp1 : 0 < (pieceD h s).length := by omega
 refine meets_of_ev (nt := 72) Tryd.func71 rfl rfl (Nat.le_of_ble_eq_true rfl) ?_
 refine .seq ?_
 refine .region ?_
 refine .q (op_assign rfl) trivial rfl ?_
 refine .nil ?_
 show Ev _ _ _ _ _
 refine .seq ?_
 refine .region ?_
 refine .q (op_move rfl) trivial rfl ?_
 refine .q (op_move rfl) trivial rfl ?_
 refine .q (op_len_str Tryd.underlying9 rfl) trivial rfl ?_
 refine .q (op_move rfl) trivial rfl ?_
 refine .q (op_nilCheck rfl) trivial rfl ?_
 refine .q (op_fieldAddr (m := 0) Tryd.underlying115 rfl (by kernel_rfl) rfl) trivial rfl ?_
 refine .as (.ptr 500 1) rfl ?_
 refine .q (op_load Tryd.underlying32 rfl rfl rfl rfl (by show 1 < 5; decide)) trivial rfl ?_
 refine .q (op_len_nil Tryd.underlying32 rfl) trivial rfl ?_
 refine .q (op_subI rfl rfl ⟨by omega, by omega⟩) trivial rfl ?_
 refine .q (op_minI rfl rfl) trivial rfl ?_
 refine .q (ap_slice_str_hi Tryd.underlying9 rfl (bnd_some rfl (l := (pieceD h s).length) (by rw [hpl]; omega)) (by omega)) trivial rfl ?_
 refine .as (.str (pieceD h s)) (congrArg AV.str (piece_take h s)) ?_
 refine .q (op_assign rfl) trivial rfl ?_
 refine .nil ?_
 show Ev _ _ _ _ _
 refine .seq ?_
 refine .region ?_
 refine .q (op_move rfl) trivial rfl ?_
 refine .q (op_call (U := []) [] [] (scuts_n (pieceD h s) 10 (by omega) hc) Tryd.func111 (by kernel_rfl) rfl rfl rfl (⟨⟨_, rfl, rfl, rfl⟩, ⟨_, rfl, rfl, rfl⟩, trivial⟩) (trivial) (trivial) (trivial) rfl) trivial rfl ?_
 refine .q (op_move rfl) trivial rfl ?_
 refine .q (op_extract rfl rfl) trivial rfl ?_
 refine .q (op_extract rfl rfl) trivial rfl ?_
 refine .q (op_extract rfl rfl) trivial rfl ?_
 refine .q (op_assign rfl) trivial rfl ?_
 refine .q (op_assign rfl) trivial rfl ?_
 refine .q (op_assign rfl) trivial rfl ?_
 refine .nil ?_
 show Ev _ _ _ _ _
 refine .seq ?_
 refine .region ?_
 refine .q (op_move rfl) trivial rfl ?_
 refine .q (op_move rfl) trivial rfl ?_
 refine .q (op_nilCheck rfl) trivial rfl ?_
 refine .q (op_fieldAddr (m := 0) Tryd.underlying115 rfl (by kernel_rfl) rfl) trivial rfl ?_
 refine .as (.ptr 500 1) rfl ?_
 refine .q (op_load Tryd.underlying32 rfl rfl rfl rfl (by show 1 < 5; decide)) trivial rfl ?_
 refine .q (op_move rfl) trivial rfl ?_
 refine .a (ap_catS_nil Tryd.underlying32 inf5 Tryd.underlying9 rfl rfl (by omega) (by omega)) trivial rfl ?_
 refine .q (op_nilCheck rfl) trivial rfl ?_
 refine .q (op_fieldAddr (m := 0) Tryd.underlying115 rfl (by kernel_rfl) rfl) trivial rfl ?_
 refine .as (.ptr 500 1) rfl ?_
 refine .w (op_store (by kernel_rfl) rfl rfl rfl rfl rfl (by show 1 < 5; decide)) trivial rfl ?_
 refine .nil ?_
 show Ev _ _ _ _ _
 refine .seq ?_
 refine .seq ?_
 refine .region ?_
 refine .q (op_move rfl) trivial rfl ?_
 refine .nil ?_
 show Ev _ _ _ _ _
 refine .cond_false rfl (rfl) ?_
 refine .skip ?_
 show Ev _ _ _ _ _
 refine .seq ?_
 refine .seq ?_
 refine .region ?_
 refine .q (op_move rfl) trivial rfl ?_
 refine .q (op_nilCheck rfl) trivial rfl ?_
 refine .q (op_fieldAddr (m := 0) Tryd.underlying115 rfl (by kernel_rfl) rfl) trivial rfl ?_
 refine .as (.ptr 500 1) rfl ?_
 refine .q (op_load Tryd.underlying32 rfl rfl rfl rfl (by show 1 < 5; decide)) trivial rfl ?_
 refine .q (op_len_sl Tryd.underlying32 rfl) trivial rfl ?_
 refine .q (op_cmpI rfl rfl rfl) trivial rfl ?_
 refine .nil ?_
 show Ev _ _ _ _ _
 refine .cond_false rfl (beq_eq_false_iff_ne.2 (by first | omega | (rw [List.length_append]; omega))) ?_
 refine .skip ?_
 show Ev _ _ _ _ _
 refine .seq ?_
 refine .region ?_
 refine .q (op_assign rfl) trivial rfl ?_
 refine .nil ?_
 show Ev _ _ _ _ _
 refine .ret ?_
 show RetOk _ _ _ _ _ _ _
 exact ret1v rfl (.inl rfl) rfl rfl ⟨rfl, rfl, trivial⟩
set_option maxRecDepth 100000 in
theorem read_sC (h : HD) (s : List UInt8) (hs : s.length ≤ 9000000) (hg : h.g ≤ 16) (hp9 : h.p.length ≤ 254) (hs0 : 0 < s.length) (hc : (pieceD h s).contains 10 = true)  (eo : Nat → Nat × Nat) : Meets Tryd.prog 71 [.ptr 500 0, .str s] [(500, some ⟨.agg [.bool (h).c, .sl 501 0 h.p.length 1, .i64 (((h).g : Nat) : Int), .str (h).v, .err 225 ((h).e) (offE eo ((h).e))], 115, true⟩), (501, some ⟨.aggB (h.p), 5, true⟩), (0, some ⟨.agg [.err 225 (3) (offE eo (3))], errT, false⟩), (4, some ⟨.agg [.err 225 (4) (offE eo (4))], errT, false⟩), (11, some ⟨.agg [.err 225 (12) (offE eo (12))], errT, false⟩)] (.str (s.drop ((cutB 10 (pieceD h s)).length + 1))) [(500, some ⟨.agg [.bool ({ procH { h with p := [] } (lineD h s) with e := procE { h with p := [] } (lineD h s) }).c, .nilsl, .i64 ((({ procH { h with p := [] } (lineD h s) with e := procE { h with p := [] } (lineD h s) }).g : Nat) : Int), .str ({ procH { h with p := [] } (lineD h s) with e := procE { h with p := [] } (lineD h s) }).v, .err 225 (({ procH { h with p := [] } (lineD h s) with e := procE { h with p := [] } (lineD h s) }).e) (offE eo (({ procH { h with p := [] } (lineD h s) with e := procE { h with p := [] } (lineD h s) }).e))], 115, true⟩)] := by
 have hpl := piece_len h s
 have hcl := cutB_le 10 (pieceD h s)
 refine meets_of_ev (nt := 72) Tryd.func71 rfl rfl (Nat.le_of_ble_eq_true rfl) ?_
 refine .seq ?_
 refine .region ?_
 refine .q (op_assign rfl) trivial rfl ?_
 refine .nil ?_
 show Ev _ _ _ _ _
 refine .seq ?_
 refine .region ?_
 refine .q (op_move rfl) trivial rfl ?_
 refine .q (op_move rfl) trivial rfl ?_
 refine .q (op_len_str Tryd.underlying9 rfl) trivial rfl ?_
 refine .q (op_move rfl) trivial rfl ?_
 refine .q (op_nilCheck rfl) trivial rfl ?_
 refine .q (op_fieldAddr (m := 0) Tryd.underlying115 rfl (by kernel_rfl) rfl) trivial rfl ?_
 refine .as (.ptr 500 1) rfl ?_
 refine .q (op_load Tryd.underlying32 rfl rfl rfl rfl (by show 1 < 5; decide)) trivial rfl ?_
 refine .q (op_len_sl Tryd.underlying32 rfl) trivial rfl ?_
 refine .q (op_subI rfl rfl ⟨by omega, by omega⟩) trivial rfl ?_
 refine .q (op_minI rfl rfl) trivial rfl ?_
 refine .q (ap_slice_str_hi Tryd.underlying9 rfl (bnd_some rfl (l := (pieceD h s).length) (by rw [hpl]; omega)) (by omega)) trivial rfl ?_
 refine .as (.str (pieceD h s)) (congrArg AV.str (piece_take h s)) ?_
 refine .q (op_assign rfl) trivial rfl ?_
 refine .nil ?_
 show Ev _ _ _ _ _
 refine .seq ?_
 refine .region ?_
 refine .q (op_move rfl) trivial rfl ?_
 refine .q (op_call (U := []) [] [] (scuts_y (pieceD h s) 10 (by omega) hc) Tryd.func111 (by kernel_rfl) rfl rfl rfl (⟨⟨_, rfl, rfl, rfl⟩, ⟨_, rfl, rfl, rfl⟩, trivial⟩) (trivial) (trivial) (trivial) rfl) trivial rfl ?_
 refine .q (op_move rfl) trivial rfl ?_
 refine .q (op_extract rfl rfl) trivial rfl ?_
 refine .q (op_extract rfl rfl) trivial rfl ?_
 refine .q (op_extract rfl rfl) trivial rfl ?_
 refine .q (op_assign rfl) trivial rfl ?_
 refine .q (op_assign rfl) trivial rfl ?_
 refine .q (op_assign rfl) trivial rfl ?_
 refine .nil ?_
 show Ev _ _ _ _ _
 refine .seq ?_
 refine .region ?_
 refine .q (op_move rfl) trivial rfl ?_
 refine .q (op_move rfl) trivial rfl ?_
 refine .q (op_nilCheck rfl) trivial rfl ?_
 refine .q (op_fieldAddr (m := 0) Tryd.underlying115 rfl (by kernel_rfl) rfl) trivial rfl ?_
 refine .as (.ptr 500 1) rfl ?_
 refine .q (op_load Tryd.underlying32 rfl rfl rfl rfl (by show 1 < 5; decide)) trivial rfl ?_
 refine .q (op_move rfl) trivial rfl ?_
 refine .a (ap_catS Tryd.underlying32 inf5 Tryd.underlying9 rfl rfl rfl (rfl) (by omega)) trivial rfl ?_
 refine .as (.sl 1000 0 (h.p ++ (cutB 10 (pieceD h s))).length 1) (congrArg (fun n => AV.sl 1000 0 n 1) List.length_append.symm) ?_
 refine .q (op_nilCheck rfl) trivial rfl ?_
 refine .q (op_fieldAddr (m := 0) Tryd.underlying115 rfl (by kernel_rfl) rfl) trivial rfl ?_
 refine .as (.ptr 500 1) rfl ?_
 refine .w (op_store (by kernel_rfl) rfl rfl rfl rfl rfl (by show 1 < 5; decide)) trivial rfl ?_
 refine .nil ?_
 show Ev _ _ _ _ _
 refine .seq ?_
 refine .seq ?_
 refine .region ?_
 refine .q (op_move rfl) trivial rfl ?_
 refine .nil ?_
 show Ev _ _ _ _ _
 refine .cond_true rfl (rfl) ?_
 refine .seq ?_
 refine .region ?_
 refine .q (op_move rfl) trivial rfl ?_
 refine .q (op_nilCheck rfl) trivial rfl ?_
 refine .q (op_fieldAddr (m := 0) Tryd.underlying115 rfl (by kernel_rfl) rfl) trivial rfl ?_
 refine .as (.ptr 500 1) rfl ?_
 refine .q (op_load Tryd.underlying32 rfl rfl rfl rfl (by show 1 < 5; decide)) trivial rfl ?_
 refine .a (ap_build (us := [_]) (c := .aggB [_]) Tryd.underlying32 inf5 rfl (by decide) (by decide) ⟨rfl, rfl, rfl, trivial⟩ rfl) trivial rfl ?_
 refine .a (op_mark Tryd.underlying32 Tryd.underlying5 rfl (by first | omega | (simp only [AV.len]; omega) | (simp only [AV.len, List.length_set]; omega) | assumption | (simp [AV.len]; done)) rfl rfl) trivial rfl ?_
 refine .q (op_call (U := []) [(500, 1000), (501, 1008)] [] (trimsfx_ev (h.p ++ (cutB 10 (pieceD h s))) (5) 5 (by have := cutB_le 10 (pieceD h s); simp only [List.length_append]; omega)) Tryd.func112 (by kernel_rfl) rfl rfl rfl (⟨⟨_, rfl, rfl, rfl⟩, ⟨_, rfl, rfl, rfl⟩, trivial⟩) (⟨⟨_, _, rfl, rfl, rfl, rfl, (fun h => by cases h), rfl⟩, ⟨_, _, rfl, rfl, rfl, rfl, (fun h => by cases h), rfl⟩, trivial⟩) (trivial) (⟨(fun h => by cases h), (fun h => by cases h), trivial⟩) rfl) trivial rfl ?_
 refine .q (op_bytes_str Tryd.underlying32 Tryd.underlying5 Tryd.underlying9 rfl rfl rfl (by have := crB_le (h.p ++ (cutB 10 (pieceD h s))); omega)) trivial rfl ?_
 refine .as (.str (lineD h s)) (congrArg AV.str (by rw [line_take]; rfl)) ?_
 refine .q (op_assign rfl) trivial rfl ?_
 refine .nil ?_
 show Ev _ _ _ _ _
 refine .seq ?_
 refine .region ?_
 refine .q (op_move rfl) trivial rfl ?_
 refine .q (op_nilCheck rfl) trivial rfl ?_
 refine .q (op_fieldAddr (m := 0) Tryd.underlying115 rfl (by kernel_rfl) rfl) trivial rfl ?_
 refine .as (.ptr 500 1) rfl ?_
 refine .w (op_store (by kernel_rfl) rfl rfl rfl rfl rfl (by show 1 < 5; decide)) trivial rfl ?_
 refine .nil ?_
 show Ev _ _ _ _ _
 refine .seq ?_
 refine .region ?_
 refine .q (op_move rfl) trivial rfl ?_
 refine .q (op_move rfl) trivial rfl ?_
 refine .q (op_move rfl) trivial rfl ?_
 refine .a (op_call (U := [(500, some ⟨.agg [.bool (procH { h with p := [] } (lineD h s)).c, .nilsl, .i64 (((procH { h with p := [] } (lineD h s)).g : Nat) : Int), .str (procH { h with p := [] } (lineD h s)).v, .err 225 ((procH { h with p := [] } (lineD h s)).e) (offE eo ((procH { h with p := [] } (lineD h s)).e))], 115, true⟩)]) [(500, 500)] [] (proc_ev { h with p := [] } (lineD h s) (by unfold lineD; have := crB_le (h.p ++ (cutB 10 (pieceD h s))); have := cutB_le 10 (pieceD h s); simp only [List.length_append] at *; omega) hg eo) Tryd.func113 (by kernel_rfl) rfl rfl rfl (⟨⟨_, rfl, rfl, rfl⟩, ⟨_, rfl, rfl, rfl⟩, trivial⟩) (⟨⟨_, _, rfl, rfl, rfl, rfl, id, rfl⟩, ⟨_, _, rfl, rfl, rfl, rfl, (fun h => by cases h), rfl⟩, ⟨_, _, rfl, rfl, rfl, rfl, (fun h => by cases h), rfl⟩, trivial⟩) (⟨⟨500, _, rfl, rfl, rfl, rfl, .inr ⟨rfl, _, rfl, rfl⟩⟩, trivial⟩) (⟨(fun _ => ⟨500, _, rfl, rfl⟩), (fun h => by cases h), (fun h => by cases h), trivial⟩) rfl) trivial rfl ?_
 refine .q (op_nilCheck rfl) trivial rfl ?_
 refine .q (op_fieldAddr (m := 0) Tryd.underlying115 rfl (by kernel_rfl) rfl) trivial rfl ?_
 refine .as (.ptr 500 4) rfl ?_
 refine .w (op_store (by kernel_rfl) rfl rfl rfl rfl rfl (by show 4 < 5; decide)) trivial rfl ?_
 refine .nil ?_
 show Ev _ _ _ _ _
 refine .seq ?_
 refine .region ?_
 refine .q (op_move rfl) trivial rfl ?_
 refine .q (op_move rfl) trivial rfl ?_
 refine .q (op_len_str Tryd.underlying9 rfl) trivial rfl ?_
 refine .q (op_addI rfl rfl ⟨by have := cut_lt 10 (pieceD h s) hc; omega, by have := cut_lt 10 (pieceD h s) hc; omega⟩) trivial rfl ?_
 refine .q (ap_slice_str_lo Tryd.underlying9 rfl (bnd_some rfl (l := (cutB 10 (pieceD h s)).length + 1) rfl) (by have := cut_lt 10 (pieceD h s) hc; omega)) trivial rfl ?_
 refine .q (op_assign rfl) trivial rfl ?_
 refine .nil ?_
 show Ev _ _ _ _ _
 refine .ret ?_
 show RetOk _ _ _ _ _ _ _
 exact ret1v rfl (.inl rfl) rfl rfl ⟨rfl, trivial⟩
set_option maxRecDepth 100000 in
theorem read_sF (h : HD) (s : List UInt8) (_hs : s.length ≤ 9000000) (_hg : h.g ≤ 16) (hp9 : h.p.length ≤ 254) (_hs0 : 0 < s.length) (hc : (pieceD h s).contains 10 = false) (hf : h.p.length + (pieceD h s).length = 255)  (eo : Nat → Nat × Nat) : Meets Tryd.prog 71 [.ptr 500 0, .str s] [(500, some ⟨.agg [.bool (h).c, .sl 501 0 h.p.length 1, .i64 (((h).g : Nat) : Int), .str (h).v, .err 225 ((h).e) (offE eo ((h).e))], 115, true⟩), (501, some ⟨.aggB (h.p), 5, true⟩), (0, some ⟨.agg [.err 225 (3) (offE eo (3))], errT, false⟩), (4, some ⟨.agg [.err 225 (4) (offE eo (4))], errT, false⟩), (11, some ⟨.agg [.err 225 (12) (offE eo (12))], errT, false⟩)] (.str []) [(500, some ⟨.agg [.bool ({ h with p := [], e := 4 }).c, .nilsl, .i64 ((({ h with p := [], e := 4 }).g : Nat) : Int), .str ({ h with p := [], e := 4 }).v, .err 225 (({ h with p := [], e := 4 }).e) (offE eo (({ h with p := [], e := 4 }).e))], 115, true⟩)] := by
 have hpl := piece_len h s
 have hcl := cutB_le 10 (pieceD h s)
 refine meets_of_ev (nt := 72) Tryd.func71 rfl rfl (Nat.le_of_ble_eq_true rfl) ?_
 refine .seq ?_
 refine .region ?_
 refine .q (op_assign rfl) trivial rfl ?_
 refine .nil ?_
 show Ev _ _ _ _ _
 refine .seq ?_
 refine .region ?_
 refine .q (op_move rfl) trivial rfl ?_
 refine .q (op_move rfl) trivial rfl ?_
 refine .q (op_len_str Tryd.underlying9 rfl) trivial rfl ?_
 refine .q (op_move rfl) trivial rfl ?_
 refine .q (op_nilCheck rfl) trivial rfl ?_
 refine .q (op_fieldAddr (m := 0) Tryd.underlying115 rfl (by kernel_rfl) rfl) trivial rfl ?_
 refine .as (.ptr 500 1) rfl ?_
 refine .q (op_load Tryd.underlying32 rfl rfl rfl rfl (by show 1 < 5; decide)) trivial rfl ?_
 refine .q (op_len_sl Tryd.underlying32 rfl) trivial rfl ?_
 refine .q (op_subI rfl rfl ⟨by omega, by omega⟩) trivial rfl ?_
 refine .q (op_minI rfl rfl) trivial rfl ?_
 refine .q (ap_slice_str_hi Tryd.underlying9 rfl (bnd_some rfl (l := (pieceD h s).length) (by rw [hpl]; omega)) (by omega)) trivial rfl ?_
 refine .as (.str (pieceD h s)) (congrArg AV.str (piece_take h s)) ?_
 refine .q (op_assign rfl) trivial rfl ?_
 refine .nil ?_
 show Ev _ _ _ _ _
 refine .seq ?_
 refine .region ?_
 refine .q (op_move rfl) trivial rfl ?_
 refine .q (op_call (U := []) [] [] (scuts_n (pieceD h s) 10 (by omega) hc) Tryd.func111 (by kernel_rfl) rfl rfl rfl (⟨⟨_, rfl, rfl, rfl⟩, ⟨_, rfl, rfl, rfl⟩, trivial⟩) (trivial) (trivial) (trivial) rfl) trivial rfl ?_
 refine .q (op_move rfl) trivial rfl ?_
 refine .q (op_extract rfl rfl) trivial rfl ?_
 refine .q (op_extract rfl rfl) trivial rfl ?_
 refine .q (op_extract rfl rfl) trivial rfl ?_
 refine .q (op_assign rfl) trivial rfl ?_
 refine .q (op_assign rfl) trivial rfl ?_
 refine .q (op_assign rfl) trivial rfl ?_
 refine .nil ?_
 show Ev _ _ _ _ _
 refine .seq ?_
 refine .region ?_
 refine .q (op_move rfl) trivial rfl ?_
 refine .q (op_move rfl) trivial rfl ?_
 refine .q (op_nilCheck rfl) trivial rfl ?_
 refine .q (op_fieldAddr (m := 0) Tryd.underlying115 rfl (by kernel_rfl) rfl) trivial rfl ?_
 refine .as (.ptr 500 1) rfl ?_
 refine .q (op_load Tryd.underlying32 rfl rfl rfl rfl (by show 1 < 5; decide)) trivial rfl ?_
 refine .q (op_move rfl) trivial rfl ?_
 refine .a (ap_catS Tryd.underlying32 inf5 Tryd.underlying9 rfl rfl rfl (rfl) (by omega)) trivial rfl ?_
 refine .q (op_nilCheck rfl) trivial rfl ?_
 refine .q (op_fieldAddr (m := 0) Tryd.underlying115 rfl (by kernel_rfl) rfl) trivial rfl ?_
 refine .as (.ptr 500 1) rfl ?_
 refine .w (op_store (by kernel_rfl) rfl rfl rfl rfl rfl (by show 1 < 5; decide)) trivial rfl ?_
 refine .nil ?_
 show Ev _ _ _ _ _
 refine .seq ?_
 refine .seq ?_
 refine .region ?_
 refine .q (op_move rfl) trivial rfl ?_
 refine .nil ?_
 show Ev _ _ _ _ _
 refine .cond_false rfl (rfl) ?_
 refine .skip ?_
 show Ev _ _ _ _ _
 refine .seq ?_
 refine .seq ?_
 refine .region ?_
 refine .q (op_move rfl) trivial rfl ?_
 refine .q (op_nilCheck rfl) trivial rfl ?_
 refine .q (op_fieldAddr (m := 0) Tryd.underlying115 rfl (by kernel_rfl) rfl) trivial rfl ?_
 refine .as (.ptr 500 1) rfl ?_
 refine .q (op_load Tryd.underlying32 rfl rfl rfl rfl (by show 1 < 5; decide)) trivial rfl ?_
 refine .q (op_len_sl Tryd.underlying32 rfl) trivial rfl ?_
 refine .q (op_cmpI rfl rfl rfl) trivial rfl ?_
 refine .nil ?_
 show Ev _ _ _ _ _
 refine .cond_true rfl (beq_iff_eq.2 (by first | omega | (rw [List.length_append]; omega))) ?_
 refine .seq ?_
 refine .region ?_
 refine .q (op_move rfl) trivial rfl ?_
 refine .q (op_nilCheck rfl) trivial rfl ?_
 refine .q (op_fieldAddr (m := 0) Tryd.underlying115 rfl (by kernel_rfl) rfl) trivial rfl ?_
 refine .as (.ptr 500 1) rfl ?_
 refine .w (op_store (by kernel_rfl) rfl rfl rfl rfl rfl (by show 1 < 5; decide)) trivial rfl ?_
 refine .nil ?_
 show Ev _ _ _ _ _
 refine .region ?_
 refine .q (op_move rfl) trivial rfl ?_
 refine .q (op_load Tryd.underlying26 rfl rfl rfl rfl (by first | omega | (simp only [AV.len]; omega) | (simp only [AV.len]; omega) | assumption | (simp [AV.len]; done))) trivial rfl ?_
 refine .q (op_nilCheck rfl) trivial rfl ?_
 refine .q (op_fieldAddr (m := 0) Tryd.underlying115 rfl (by kernel_rfl) rfl) trivial rfl ?_
 refine .as (.ptr 500 4) rfl ?_
 refine .w (op_store (by kernel_rfl) rfl rfl rfl rfl rfl (by show 4 < 5; decide)) trivial rfl ?_
 refine .nil ?_
 show Ev _ _ _ _ _
 refine .seq ?_
 refine .region ?_
 refine .q (op_assign rfl) trivial rfl ?_
 refine .nil ?_
 show Ev _ _ _ _ _
 refine .ret ?_
 show RetOk _ _ _ _ _ _ _
 exact ret1v rfl (.inl rfl) rfl rfl ⟨rfl, trivial⟩
set_option maxRecDepth 100000 in
theorem read_sG (h : HD) (s : List UInt8) (hs : s.length ≤ 9000000) (_hg : h.g ≤ 16) (hp9 : h.p.length ≤ 254) (hs0 : 0 < s.length) (hc : (pieceD h s).contains 10 = false) (hf : ¬ h.p.length + (pieceD h s).length = 255)  (eo : Nat → Nat × Nat) : Meets Tryd.prog 71 [.ptr 500 0, .str s] [(500, some ⟨.agg [.bool (h).c, .sl 501 0 h.p.length 1, .i64 (((h).g : Nat) : Int), .str (h).v, .err 225 ((h).e) (offE eo ((h).e))], 115, true⟩), (501, some ⟨.aggB (h.p), 5, true⟩), (0, some ⟨.agg [.err 225 (3) (offE eo (3))], errT, false⟩), (4, some ⟨.agg [.err 225 (4) (offE eo (4))], errT, false⟩), (11, some ⟨.agg [.err 225 (12) (offE eo (12))], errT, false⟩)] (.str []) [(500, some ⟨.agg [.bool ({ h with p := (h.p ++ (pieceD h s)) }).c, .sl 1000 0 (h.p ++ (pieceD h s)).length 1, .i64 ((({ h with p := (h.p ++ (pieceD h s)) }).g : Nat) : Int), .str ({ h with p := (h.p ++ (pieceD h s)) }).v, .err 225 (({ h with p := (h.p ++ (pieceD h s)) }).e) (offE eo (({ h with p := (h.p ++ (pieceD h s)) }).e))], 115, true⟩), (1000, some ⟨.aggB ((h.p ++ (pieceD h s))), 5, true⟩)] := by
 have hpl := piece_len h s
 have hcl := cutB_le 10 (pieceD h s)
 refine meets_of_ev (nt := 72) Tryd.func71 rfl rfl (Nat.le_of_ble_eq_true rfl) ?_
 refine .seq ?_
 refine .region ?_
 refine .q (op_assign rfl) trivial rfl ?_
 refine .nil ?_
 show Ev _ _ _ _ _
 refine .seq ?_
 refine .region ?_
 refine .q (op_move rfl) trivial rfl ?_
 refine .q (op_move rfl) trivial rfl ?_
 refine .q (op_len_str Tryd.underlying9 rfl) trivial rfl ?_
 refine .q (op_move rfl) trivial rfl ?_
 refine .q (op_nilCheck rfl) trivial rfl ?_
 refine .q (op_fieldAddr (m := 0) Tryd.underlying115 rfl (by kernel_rfl) rfl) trivial rfl ?_
 refine .as (.ptr 500 1) rfl ?_
 refine .q (op_load Tryd.underlying32 rfl rfl rfl rfl (by show 1 < 5; decide)) trivial rfl ?_
 refine .q (op_len_sl Tryd.underlying32 rfl) trivial rfl ?_
 refine .q (op_subI rfl rfl ⟨by omega, by omega⟩) trivial rfl ?_
 refine .q (op_minI rfl rfl) trivial rfl ?_
 refine .q (ap_slice_str_hi Tryd.underlying9 rfl (bnd_some rfl (l := (pieceD h s).length) (by rw [hpl]; omega)) (by omega)) trivial rfl ?_
 refine .as (.str (pieceD h s)) (congrArg AV.str (piece_take h s)) ?_
 refine .q (op_assign rfl) trivial rfl ?_
 refine .nil ?_
 show Ev _ _ _ _ _
 refine .seq ?_
 refine .region ?_
 refine .q (op_move rfl) trivial rfl ?_
 refine .q (op_call (U := []) [] [] (scuts_n (pieceD h s) 10 (by omega) hc) Tryd.func111 (by kernel_rfl) rfl rfl rfl (⟨⟨_, rfl, rfl, rfl⟩, ⟨_, rfl, rfl, rfl⟩, trivial⟩) (trivial) (trivial) (trivial) rfl) trivial rfl ?_
 refine .q (op_move rfl) trivial rfl ?_
 refine .q (op_extract rfl rfl) trivial rfl ?_
 refine .q (op_extract rfl rfl) trivial rfl ?_
 refine .q (op_extract rfl rfl) trivial rfl ?_
 refine .q (op_assign rfl) trivial rfl ?_
 refine .q (op_assign rfl) trivial rfl ?_
 refine .q (op_assign rfl) trivial rfl ?_
 refine .nil ?_
 show Ev _ _ _ _ _
 refine .seq ?_
 refine .region ?_
 refine .q (op_move rfl) trivial rfl ?_
 refine .q (op_move rfl) trivial rfl ?_
 refine .q (op_nilCheck rfl) trivial rfl ?_
 refine .q (op_fieldAddr (m := 0) Tryd.underlying115 rfl (by kernel_rfl) rfl) trivial rfl ?_
 refine .as (.ptr 500 1) rfl ?_
 refine .q (op_load Tryd.underlying32 rfl rfl rfl rfl (by show 1 < 5; decide)) trivial rfl ?_
 refine .q (op_move rfl) trivial rfl ?_
 refine .a (ap_catS Tryd.underlying32 inf5 Tryd.underlying9 rfl rfl rfl (rfl) (by omega)) trivial rfl ?_
 refine .as (.sl 1000 0 (h.p ++ (pieceD h s)).length 1) (congrArg (fun n => AV.sl 1000 0 n 1) List.length_append.symm) ?_
 refine .q (op_nilCheck rfl) trivial rfl ?_
 refine .q (op_fieldAddr (m := 0) Tryd.underlying115 rfl (by kernel_rfl) rfl) trivial rfl ?_
 refine .as (.ptr 500 1) rfl ?_
 refine .w (op_store (by kernel_rfl) rfl rfl rfl rfl rfl (by show 1 < 5; decide)) trivial rfl ?_
 refine .nil ?_
 show Ev _ _ _ _ _
 refine .seq ?_
 refine .seq ?_
 refine .region ?_
 refine .q (op_move rfl) trivial rfl ?_
 refine .nil ?_
 show Ev _ _ _ _ _
 refine .cond_false rfl (rfl) ?_
 refine .skip ?_
 show Ev _ _ _ _ _
 refine .seq ?_
 refine .seq ?_
 refine .region ?_
 refine .q (op_move rfl) trivial rfl ?_
 refine .q (op_nilCheck rfl) trivial rfl ?_
 refine .q (op_fieldAddr (m := 0) Tryd.underlying115 rfl (by kernel_rfl) rfl) trivial rfl ?_
 refine .as (.ptr 500 1) rfl ?_
 refine .q (op_load Tryd.underlying32 rfl rfl rfl rfl (by show 1 < 5; decide)) trivial rfl ?_
 refine .q (op_len_sl Tryd.underlying32 rfl) trivial rfl ?_
 refine .q (op_cmpI rfl rfl rfl) trivial rfl ?_
 refine .nil ?_
 show Ev _ _ _ _ _
 refine .cond_false rfl (beq_eq_false_iff_ne.2 (by first | omega | (rw [List.length_append]; omega))) ?_
 refine .skip ?_
 show Ev _ _ _ _ _
 refine .seq ?_
 refine .region ?_
 refine .q (op_assign rfl) trivial rfl ?_
 refine .nil ?_
 show Ev _ _ _ _ _
 refine .ret ?_
 show RetOk _ _ _ _ _ _ _
 exact ret1v rfl (.inl rfl) rfl rfl ⟨rfl, rfl, trivial⟩
def keepsD (h : HD) (s : List UInt8) : Bool := !(pieceD h s).contains 10 && !decide (h.p.length + (pieceD h s).length = 255)
theorem readD_y {h : HD} {s : List UInt8} (hc : (pieceD h s).contains 10 = true) : readD h s = ({ procH { h with p := [] } (lineD h s) with e := procE { h with p := [] } (lineD h s) }, s.drop ((cutB 10 (pieceD h s)).length + 1)) := if_pos hc
theorem readD_f {h : HD} {s : List UInt8} (hc : (pieceD h s).contains 10 = false) (hf : h.p.length + (pieceD h s).length = 255) : readD h s = ({ h with p := [], e := 4 }, []) := by
 unfold readD; rw [if_neg (by rw [hc]; simp), if_pos hf]
theorem readD_k {h : HD} {s : List UInt8} (hc : (pieceD h s).contains 10 = false) (hf : ¬ h.p.length + (pieceD h s).length = 255) : readD h s = ({ h with p := h.p ++ pieceD h s }, []) := by
 unfold readD; rw [if_neg (by rw [hc]; simp), if_neg hf]
theorem keeps_y {h : HD} {s : List UInt8} (hk : keepsD h s = true) : (pieceD h s).contains 10 = false ∧ ¬ h.p.length + (pieceD h s).length = 255 := by
 unfold keepsD at hk
 rw [Bool.and_eq_true, Bool.not_eq_true', Bool.not_eq_true', decide_eq_false_iff_not] at hk
 exact hk
theorem keeps_n {h : HD} {s : List UInt8} (hk : keepsD h s = false) (hc : (pieceD h s).contains 10 = false) : h.p.length + (pieceD h s).length = 255 := by
 unfold keepsD at hk
 rw [hc] at hk
 simpa using hk
theorem read_nn (h : HD) (s : List UInt8) (hs : s.length ≤ 9000000) (hg : h.g ≤ 16) (hp9 : h.p.length ≤ 254) (hs0 : 0 < s.length) (hp : h.p = []) (hk : keepsD h s = false) (eo : Nat → Nat × Nat) : Meets Tryd.prog 71 [.ptr 500 0, .str s] [(500, some ⟨.agg [.bool (h).c, .nilsl, .i64 (((h).g : Nat) : Int), .str (h).v, .err 225 ((h).e) (offE eo ((h).e))], 115, true⟩), (0, some ⟨.agg [.err 225 (3) (offE eo (3))], errT, false⟩), (4, some ⟨.agg [.err 225 (4) (offE eo (4))], errT, false⟩), (11, some ⟨.agg [.err 225 (12) (offE eo (12))], errT, false⟩)] (.str (readD h s).2) [(500, some ⟨.agg [.bool ((readD h s).1).c, .nilsl, .i64 ((((readD h s).1).g : Nat) : Int), .str ((readD h s).1).v, .err 225 (((readD h s).1).e) (offE eo (((readD h s).1).e))], 115, true⟩)] := by
 cases hc : (pieceD h s).contains 10 with
 | true =>
  rw [readD_y hc]
  by_cases ht : cutB 10 (pieceD h s) = []
  ·exact read_nA h s hs hg hp9 hs0 hp hc ht eo
  ·exact read_nB h s hs hg hp9 hs0 hp hc ht eo
 | false =>
  rw [readD_f hc (keeps_n hk hc)]
  exact read_nD h s hs hg hp9 hs0 hp hc (keeps_n hk hc) eo
theorem read_sn (h : HD) (s : List UInt8) (hs : s.length ≤ 9000000) (hg : h.g ≤ 16) (hp9 : h.p.length ≤ 254) (hs0 : 0 < s.length) (hk : keepsD h s = false) (eo : Nat → Nat × Nat) : Meets Tryd.prog 71 [.ptr 500 0, .str s] [(500, some ⟨.agg [.bool (h).c, .sl 501 0 h.p.length 1, .i64 (((h).g : Nat) : Int), .str (h).v, .err 225 ((h).e) (offE eo ((h).e))], 115, true⟩), (501, some ⟨.aggB (h.p), 5, true⟩), (0, some ⟨.agg [.err 225 (3) (offE eo (3))], errT, false⟩), (4, some ⟨.agg [.err 225 (4) (offE eo (4))], errT, false⟩), (11, some ⟨.agg [.err 225 (12) (offE eo (12))], errT, false⟩)] (.str (readD h s).2) [(500, some ⟨.agg [.bool ((readD h s).1).c, .nilsl, .i64 ((((readD h s).1).g : Nat) : Int), .str ((readD h s).1).v, .err 225 (((readD h s).1).e) (offE eo (((readD h s).1).e))], 115, true⟩)] := by
 cases hc : (pieceD h s).contains 10 with
 | true =>
  rw [readD_y hc]
  exact read_sC h s hs hg hp9 hs0 hc eo
 | false =>
  rw [readD_f hc (keeps_n hk hc)]
  exact read_sF h s hs hg hp9 hs0 hc (keeps_n hk hc) eo
theorem read_ns (h : HD) (s : List UInt8) (hs : s.length ≤ 9000000) (hg : h.g ≤ 16) (hp9 : h.p.length ≤ 254) (hs0 : 0 < s.length) (hp : h.p = []) (hk : keepsD h s = true) (eo : Nat → Nat × Nat) : Meets Tryd.prog 71 [.ptr 500 0, .str s] [(500, some ⟨.agg [.bool (h).c, .nilsl, .i64 (((h).g : Nat) : Int), .str (h).v, .err 225 ((h).e) (offE eo ((h).e))], 115, true⟩), (0, some ⟨.agg [.err 225 (3) (offE eo (3))], errT, false⟩), (4, some ⟨.agg [.err 225 (4) (offE eo (4))], errT, false⟩), (11, some ⟨.agg [.err 225 (12) (offE eo (12))], errT, false⟩)] (.str (readD h s).2) [(500, some ⟨.agg [.bool ((readD h s).1).c, .sl 1000 0 (readD h s).1.p.length 1, .i64 ((((readD h s).1).g : Nat) : Int), .str ((readD h s).1).v, .err 225 (((readD h s).1).e) (offE eo (((readD h s).1).e))], 115, true⟩), (1000, some ⟨.aggB ((readD h s).1.p), 5, true⟩)] := by
 obtain ⟨hc, hf⟩ := keeps_y hk
 rw [readD_k hc hf, hp, List.nil_append]
 exact read_nE h s hs hg hp9 hs0 hp hc hf eo
theorem read_ss (h : HD) (s : List UInt8) (hs : s.length ≤ 9000000) (hg : h.g ≤ 16) (hp9 : h.p.length ≤ 254) (hs0 : 0 < s.length) (hk : keepsD h s = true) (eo : Nat → Nat × Nat) : Meets Tryd.prog 71 [.ptr 500 0, .str s] [(500, some ⟨.agg [.bool (h).c, .sl 501 0 h.p.length 1, .i64 (((h).g : Nat) : Int), .str (h).v, .err 225 ((h).e) (offE eo ((h).e))], 115, true⟩), (501, some ⟨.aggB (h.p), 5, true⟩), (0, some ⟨.agg [.err 225 (3) (offE eo (3))], errT, false⟩), (4, some ⟨.agg [.err 225 (4) (offE eo (4))], errT, false⟩), (11, some ⟨.agg [.err 225 (12) (offE eo (12))], errT, false⟩)] (.str (readD h s).2) [(500, some ⟨.agg [.bool ((readD h s).1).c, .sl 1000 0 (readD h s).1.p.length 1, .i64 ((((readD h s).1).g : Nat) : Int), .str ((readD h s).1).v, .err 225 (((readD h s).1).e) (offE eo (((readD h s).1).e))], 115, true⟩), (1000, some ⟨.aggB ((readD h s).1.p), 5, true⟩)] := by
 obtain ⟨hc, hf⟩ := keeps_y hk
 rw [readD_k hc hf]
 exact read_sG h s hs hg hp9 hs0 hc hf eo
end Go.Proofs.YteefpaiefphdpaaDoor
