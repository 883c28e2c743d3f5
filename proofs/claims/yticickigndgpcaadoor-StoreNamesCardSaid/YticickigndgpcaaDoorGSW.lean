/-
  Texts of this claim.
-/
import Derived.Test.YticickigndgpcaaDoorGSV
import Derived.Test.YticickigndgpcaaDoorGSY
namespace Go.Proofs.YticickigndgpcaaDoor
open Go.RowKit
def smallB (c : UInt8) : Bool := decide (97 ≤ c) && decide (c ≤ 122)
def digitB (c : UInt8) : Bool := decide (48 ≤ c) && decide (c ≤ 57)
def dashB (s : List UInt8) (i : Nat) : Bool := (s.getD i 0 == 45) && (decide (0 < (i : Int)) && decide ((i : Int) + 1 < (s.length : Int)))
/-- The first bytes of a name are as they may be. -/
def goodR (s : List UInt8) (i : Nat) : Prop := ∀ j, j < i → smallB (s.getD j 0) = true ∨ digitB (s.getD j 0) = true ∨ dashB s j = true
theorem good0 (s : List UInt8) : goodR s 0 := fun j hj => absurd hj (Nat.not_lt_zero _)
theorem good_step {s : List UInt8} {i : Nat} (h : goodR s i) (k : smallB (s.getD i 0) = true ∨ digitB (s.getD i 0) = true ∨ dashB s i = true) : goodR s (i + 1) := fun j hj => by
  rcases Nat.lt_succ_iff_lt_or_eq.1 hj with q | q
  · exact h j q
  · subst q; exact k
theorem nameB_or (c : UInt8) : nameB c = (smallB c || digitB c || c == 45) := rfl
theorem all_getD {s : List UInt8} : s.all nameB = true ↔ ∀ j, j < s.length → nameB (s.getD j 0) = true := by
  rw [List.all_eq_true]
  constructor
  · intro h j hj
    rw [List.getD_eq_getElem?_getD, List.getElem?_eq_getElem hj]
    exact h _ (List.getElem_mem hj)
  · intro h x hx
    obtain ⟨j, hj, rfl⟩ := List.getElem_of_mem hx
    have := h j hj
    rwa [List.getD_eq_getElem?_getD, List.getElem?_eq_getElem hj] at this
theorem small45 : smallB 45 = false := by decide
theorem digit45 : digitB 45 = false := by decide
theorem nameN_iff (s : List UInt8) : nameN s = true ↔ goodR s s.length ∧ 0 < s.length ∧ s.length ≤ 63 := by
  unfold nameN
  simp only [Bool.and_eq_true, decide_eq_true_eq, bne_iff_ne, ne_eq, all_getD]
  constructor
  · rintro ⟨⟨⟨⟨h1, h2⟩, h3⟩, h4⟩, h5⟩
    refine ⟨fun j hj => ?_, h1, h2⟩
    have := h3 j hj
    rw [nameB_or, Bool.or_eq_true, Bool.or_eq_true] at this
    rcases this with (q | q) | q
    · exact .inl q
    · exact .inr (.inl q)
    · refine .inr (.inr ?_)
      have q' : s.getD j 0 = 45 := by simpa using q
      have hj0 : j ≠ 0 := fun e => h4 (by rw [← e]; exact q')
      have hj1 : j ≠ s.length - 1 := fun e => h5 (by rw [← e]; exact q')
      unfold dashB
      rw [q, decide_eq_true (show (0 : Int) < (j : Int) by omega), decide_eq_true (show (j : Int) + 1 < (s.length : Int) by omega)]
      rfl
  · rintro ⟨h1, h2, h3⟩
    have dash : ∀ j, j < s.length → s.getD j 0 = 45 → 0 < j ∧ j + 1 < s.length := fun j hj e => by
      rcases h1 j hj with q | q | q
      · rw [e, small45] at q; cases q
      · rw [e, digit45] at q; cases q
      · unfold dashB at q
        simp only [Bool.and_eq_true, decide_eq_true_eq] at q
        omega
    refine ⟨⟨⟨⟨h2, h3⟩, fun j hj => ?_⟩, fun e => ?_⟩, fun e => ?_⟩
    · rw [nameB_or]
      rcases h1 j hj with q | q | q
      · rw [q]; rfl
      · rw [q, Bool.or_true]; rfl
      · unfold dashB at q
        simp only [Bool.and_eq_true] at q
        rw [q.1, Bool.or_true]
    · have := dash 0 h2 e; omega
    · have := dash (s.length - 1) (by omega) e; omega
theorem rv_bad {s : List UInt8} {i : Nat} (hi : i < s.length) (h1 : (!smallB (s.getD i 0)) = true) (h2 : (!digitB (s.getD i 0)) = true) (h3 : (!dashB s i) = true) : false = nameN s := by
  cases h : nameN s with
  | false => rfl
  | true =>
    rcases ((nameN_iff s).1 h).1 i hi with q | q | q
    · rw [q] at h1; cases h1
    · rw [q] at h2; cases h2
    · rw [q] at h3; cases h3
theorem rv_end {s : List UInt8} {i : Nat} (hi : i ≤ s.length) (hn : ¬ (i : Int) < (s.length : Int)) (h : goodR s i) : (decide (1 ≤ (s.length : Int)) && decide ((s.length : Int) ≤ 63)) = nameN s := by
  have e : i = s.length := by omega
  subst e
  rw [Bool.eq_iff_iff, nameN_iff]
  simp only [Bool.and_eq_true, decide_eq_true_eq]
  exact ⟨fun q => ⟨h, by omega, by omega⟩, fun q => by omega⟩
theorem op_fieldAddr_fptr {P : Program} {T : Nat → Option AV} {H : Hp} {nm : Nat} {wr : Bool} {d : Option Tmp} {ty : TypeId} {ps : String} {af : Array Edge} {gd : Option (Nat × Bool)} {s : TypeId} {x : Operand} {k m : Nat} {fs : Array Field} {f : Field} {cs : List AV} (hu : P.underlying s = some (.struct fs)) (hf : fs[k]? = some f) (hz : (P.info? f.type).map (·.size) = some (m + 1)) (hx : aev T x = some (.fptr cs)) (hl : f.offset < cs.length) :
    OpSem P T H ⟨d, .fieldAddr s x k, ty, ps, af, gd⟩ nm wr (.fptr (cs.drop f.offset)) [] :=
  .quiet fun E a w h => by
    obtain ⟨L, g, q, o, z, h1, h2, h3, h4, h5, h6⟩ := (h x mem1 _ hx).fptr_inv
    refine ⟨.pointer (some ⟨q, o + f.offset, none⟩), ?_, .fptr _ L (fun i => g (f.offset + i)) q (o + f.offset) z h1 (fun x hx => h2 x (List.mem_of_mem_drop hx)) (fun i hi => ?_) (fun i v hv => ?_) (by rw [List.length_drop]; omega)⟩
    · simp [execOp, h6, Instr.fieldAt, Instr.sureAddr, run_underlying hu, hf, fieldPlace, run_sizeOf_is hz, add_at]
    · rw [List.length_drop] at hi; rw [Nat.add_assoc]; exact h3 _ (by omega)
    · rw [List.getElem?_drop] at hv; exact h4 _ _ hv
theorem ls_owner {l : List Ls} {i : Nat} (h : i < l.length) : (((lsC l).drop (i * 5)).drop 2)[0]? = some (.i64 (l.getD i default).o) := by rw [lsC_drop h]; rfl
theorem ls_long {l : List Ls} {i : Nat} (h : i < l.length) : 2 < ((lsC l).drop (i * 5)).length := by rw [List.length_drop, lsC_len]; omega
theorem run_mapM4 {P : Program} {w : World} (f : ResultVar → Sem Value) (r1 r2 r3 r4 : ResultVar) (y1 y2 y3 y4 : Value) (h1 : (f r1).run P w = .ok y1 w) (h2 : (f r2).run P w = .ok y2 w) (h3 : (f r3).run P w = .ok y3 w) (h4 : (f r4).run P w = .ok y4 w) : ((#[r1, r2, r3, r4] : Array ResultVar).mapM f).run P w = .ok #[y1, y2, y3, y4] w := by
  simp [h1, h2, h3, h4]
theorem retc4 {P : Program} {nt : Nat} {st : St} {fn : Func} {r1 r2 r3 r4 : ResultVar} {v1 v2 v3 v4 : AV} {H1 : List (Nat × Option ABlk)} {e : Exit} (hr : fn.results = #[r1, r2, r3, r4]) (he : e = .ret ∨ e = .normal) (h1 : ResOk P st r1 v1) (h2 : ResOk P st r2 v2) (h3 : ResOk P st r3 v3) (h4 : ResOk P st r4 v4) (hH : HSub (hget st.H) H1) : RetOk P fn nt (.tup [v1, v2, v3, v4]) H1 e st :=
  ⟨he, hH.spec, fun E S n0 a w hR => by
    obtain ⟨y1, g1, g2⟩ := h1.run hR
    obtain ⟨y2, g3, g4⟩ := h2.run hR
    obtain ⟨y3, g5, g6⟩ := h3.run hR
    obtain ⟨y4, g7, g8⟩ := h4.run hR
    refine ⟨.tuple #[y1, y2, y3, y4], ?_, .tup _ _ rfl fun i x y hx hy => ?_⟩
    · have h9 := run_mapM4 (P := P) (w := w) (fun r => match r with | .tmp t => pure (a.tmps.getD t undef) | .cell q t => do loadVar t (← asAddr (a.tmps.getD q undef)) : ResultVar → Sem Value) r1 r2 r3 r4 y1 y2 y3 y4 g1 g3 g5 g7
      unfold results
      rw [hr, Sem.run_bind]
      refine (congrArg (fun r => Result.andThen r _) h9).trans ?_
      rfl
    · match i, hx, hy with
      | 0, hx, hy => simp at hx hy; subst hx; subst hy; exact g2
      | 1, hx, hy => simp at hx hy; subst hx; subst hy; exact g4
      | 2, hx, hy => simp at hx hy; subst hx; subst hy; exact g6
      | 3, hx, hy => simp at hx hy; subst hx; subst hy; exact g8
      | n + 4, hx, hy => simp at hx⟩
/-- Where the reference's loop stands: what it has made, and whether the new one is in. -/
theorem ins_skip {x : Ls} {d : Bool} {L A : List Ls} {i : Nat} (hv : insL x false L = A ++ insL x d (L.drop i)) (hi : i < L.length) (h : kEq (L.getD i default) x) : insL x false L = A ++ insL x d (L.drop (i + 1)) := by
  rw [hv, drop_cons hi]
  congr 1
  conv => lhs; unfold insL
  rw [if_pos h]
theorem ins_keep {x : Ls} {d : Bool} {L A : List Ls} {i : Nat} (hv : insL x false L = A ++ insL x d (L.drop i)) (hi : i < L.length) (h : ¬ kEq (L.getD i default) x) (k : (!d && decide (kLt x (L.getD i default))) = false) : insL x false L = (A ++ [L.getD i default]) ++ insL x d (L.drop (i + 1)) := by
  rw [hv, drop_cons hi, List.append_assoc]
  congr 1
  conv => lhs; unfold insL
  rw [if_neg h, if_neg (by rw [k]; decide)]; rfl
theorem ins_put {x : Ls} {L A : List Ls} {i : Nat} (hv : insL x false L = A ++ insL x false (L.drop i)) (hi : i < L.length) (h : ¬ kEq (L.getD i default) x) (k : kLt x (L.getD i default)) : insL x false L = ((A ++ [x]) ++ [L.getD i default]) ++ insL x true (L.drop (i + 1)) := by
  rw [hv, drop_cons hi, List.append_assoc, List.append_assoc]
  congr 1
  conv => lhs; unfold insL
  rw [if_neg h, if_pos (by simpa using k)]; rfl
theorem ins_last {x : Ls} {L A : List Ls} {i : Nat} (hv : insL x false L = A ++ insL x false (L.drop i)) (hi : L.length ≤ i) : insL x false L = A ++ [x] := by
  rw [hv, List.drop_eq_nil_of_le hi]; rfl
theorem ins_done {x : Ls} {L A : List Ls} {i : Nat} (hv : insL x false L = A ++ insL x true (L.drop i)) (hi : L.length ≤ i) : insL x false L = A := by
  rw [hv, List.drop_eq_nil_of_le hi]; exact List.append_nil _
end Go.Proofs.YticickigndgpcaaDoor
namespace Go.Proofs.YticickigndgpcaaDoor
open Go.RowKit
set_option maxRecDepth 100000 in
theorem rvalid_ev (s : List UInt8) (hl : s.length ≤ 9223372036854775000) : Meets Tryd.prog 10 [.str s] [] (.bool (nameN s)) [] := by
 refine meets_of_ev (nt := 66) Tryd.func10 rfl rfl (Nat.le_of_ble_eq_true rfl) ?_
 refine .seq ?_
 refine .region ?_
 refine .q (op_assign rfl) trivial rfl ?_
 refine .nil ?_
 show Ev _ _ _ _ _
 refine .seq ?_
 refine .seq ?_
 refine .region ?_
 refine .q (op_assign rfl) trivial rfl ?_
 refine .nil ?_
 show Ev _ _ _ _ _
 refine .block ?_
 refine Ev.loop (ι := { i : Nat // i ≤ s.length ∧ goodR s i }) (fun q => ⟨[(0, .str s), (3, .i64 ((q.1 : Nat) : Int))], [], 1000⟩) (fun q => s.length - q.1) ⟨0, Nat.zero_le _, good0 s⟩ (StLe.mk [] rfl rfl ⟨⟨_, rfl, by first | rfl | (simp only [AV.ren]; congr 1; omega), rfl⟩, ⟨_, rfl, by first | rfl | (simp only [AV.ren]; congr 1; omega), rfl⟩, trivial⟩ trivial) ?_
 rintro ⟨i, hi0, hv⟩
 dsimp only
 refine .seq ?_
 refine .seq ?_
 refine .region ?_
 refine .q (op_move rfl) trivial rfl ?_
 refine .q (op_move rfl) trivial rfl ?_
 refine .q (op_len_str Tryd.underlying9 rfl) trivial rfl ?_
 refine .q (op_cmpI rfl rfl rfl) trivial rfl ?_
 refine .nil ?_
 show Ev _ _ _ _ _
 refine .cond rfl (fun hc10 => ?_) (fun hc10 => ?_)
 ·skip
  refine .skip ?_
  show Ev _ _ _ _ _
  refine .seq ?_
  refine .block ?_
  refine .seq ?_
  refine .region ?_
  have hi : i < s.length := by have := of_decide_eq_true hc10; omega
  refine .q (op_move rfl) trivial rfl ?_
  refine .q (op_move rfl) trivial rfl ?_
  refine .q (op_index_str Tryd.underlying9 rfl rfl (i := i) rfl (hi)) trivial rfl ?_
  refine .q (op_bin8 rfl rfl rfl) trivial rfl ?_
  refine .q (op_move rfl) trivial rfl ?_
  refine .split (fun hg17 => ?_) (fun hg17 => ?_)
  ·skip
   refine .q (op_move rfl) ⟨_, rfl, rfl⟩ rfl ?_
   refine .q (op_move rfl) ⟨_, rfl, rfl⟩ rfl ?_
   refine .q (op_index_str Tryd.underlying9 rfl rfl (i := i) rfl (hi)) ⟨_, rfl, rfl⟩ rfl ?_
   refine .q (op_bin8 rfl rfl rfl) ⟨_, rfl, rfl⟩ rfl ?_
   refine .q (op_pick_true rfl rfl rfl) trivial rfl ?_
   refine .q (op_assign rfl) trivial rfl ?_
   refine .as (.bool (smallB (s.getD i 0))) (by unfold smallB; rw [show decide ((97 : UInt8) ≤ s.getD i 0) = _ from hg17]; rfl) ?_
   refine .nil ?_
   show Ev _ _ _ _ _
   refine .seq ?_
   refine .region ?_
   refine .q (op_move rfl) trivial rfl ?_
   refine .q (op_move rfl) trivial rfl ?_
   refine .q (op_index_str Tryd.underlying9 rfl rfl (i := i) rfl (hi)) trivial rfl ?_
   refine .q (op_bin8 rfl rfl rfl) trivial rfl ?_
   refine .q (op_move rfl) trivial rfl ?_
   refine .split (fun hg27 => ?_) (fun hg27 => ?_)
   ·skip
    refine .q (op_move rfl) ⟨_, rfl, rfl⟩ rfl ?_
    refine .q (op_move rfl) ⟨_, rfl, rfl⟩ rfl ?_
    refine .q (op_index_str Tryd.underlying9 rfl rfl (i := i) rfl (hi)) ⟨_, rfl, rfl⟩ rfl ?_
    refine .q (op_bin8 rfl rfl rfl) ⟨_, rfl, rfl⟩ rfl ?_
    refine .q (op_pick_true rfl rfl rfl) trivial rfl ?_
    refine .q (op_assign rfl) trivial rfl ?_
    refine .as (.bool (digitB (s.getD i 0))) (by unfold digitB; rw [show decide ((48 : UInt8) ≤ s.getD i 0) = _ from hg27]; rfl) ?_
    refine .nil ?_
    show Ev _ _ _ _ _
    refine .seq ?_
    refine .region ?_
    refine .q (op_move rfl) trivial rfl ?_
    refine .q (op_move rfl) trivial rfl ?_
    refine .q (op_index_str Tryd.underlying9 rfl rfl (i := i) rfl (hi)) trivial rfl ?_
    refine .q (op_bin8 rfl rfl rfl) trivial rfl ?_
    refine .q (op_move rfl) trivial rfl ?_
    refine .split (fun hg37 => ?_) (fun hg37 => ?_)
    ·skip
     refine .q (op_move rfl) ⟨_, rfl, rfl⟩ rfl ?_
     refine .q (op_cmpI rfl rfl rfl) ⟨_, rfl, rfl⟩ rfl ?_
     refine .q (op_pick_true rfl rfl rfl) trivial rfl ?_
     refine .q (op_move rfl) trivial rfl ?_
     refine .split (fun hg41 => ?_) (fun hg41 => ?_)
     ·skip
      refine .q (op_move rfl) ⟨_, rfl, rfl⟩ rfl ?_
      refine .q (op_addI rfl rfl ⟨by omega, by omega⟩) ⟨_, rfl, rfl⟩ rfl ?_
      refine .q (op_move rfl) ⟨_, rfl, rfl⟩ rfl ?_
      refine .q (op_len_str Tryd.underlying9 rfl) ⟨_, rfl, rfl⟩ rfl ?_
      refine .q (op_cmpI rfl rfl rfl) ⟨_, rfl, rfl⟩ rfl ?_
      refine .q (op_pick_true rfl rfl rfl) trivial rfl ?_
      refine .q (op_assign rfl) trivial rfl ?_
      refine .as (.bool (dashB s i)) (by unfold dashB; rw [show (s.getD i 0 == (45 : UInt8)) = _ from hg37]; first | rfl | (rw [hg41]; rfl)) ?_
      refine .nil ?_
      show Ev _ _ _ _ _
      refine .seq ?_
      refine .region ?_
      refine .q (op_move rfl) trivial rfl ?_
      refine .q (op_notB rfl) trivial rfl ?_
      refine .q (op_move rfl) trivial rfl ?_
      refine .split (fun hg50 => ?_) (fun hg50 => ?_)
      ·skip
       refine .q (op_move rfl) ⟨_, rfl, rfl⟩ rfl ?_
       refine .q (op_notB rfl) ⟨_, rfl, rfl⟩ rfl ?_
       refine .q (op_pick_true rfl rfl rfl) trivial rfl ?_
       refine .q (op_move rfl) trivial rfl ?_
       refine .split (fun hg54 => ?_) (fun hg54 => ?_)
       ·skip
        refine .q (op_move rfl) ⟨_, rfl, rfl⟩ rfl ?_
        refine .q (op_notB rfl) ⟨_, rfl, rfl⟩ rfl ?_
        refine .q (op_pick_true rfl rfl rfl) trivial rfl ?_
        refine .nil ?_
        show Ev _ _ _ _ _
        refine .cond rfl (fun hc57 => ?_) (fun hc57 => ?_)
        ·skip
         refine .seq ?_
         refine .region ?_
         refine .q (op_assign rfl) trivial rfl ?_
         refine .nil ?_
         show Ev _ _ _ _ _
         refine .ret ?_
         show RetOk _ _ _ _ _ _ _
         exact ret1v rfl (.inl rfl) rfl (congrArg AV.bool (by first | exact rv_bad hi hg50 hg54 hc57 | (rw [← rv_end hi0 (of_decide_eq_false hc10) hv, hg61]; rfl))) trivial
        ·skip
         refine .skip ?_
         show Ev _ _ _ _ _
         refine .region ?_
         refine .q (op_move rfl) trivial rfl ?_
         refine .q (op_addI rfl rfl ⟨by omega, by omega⟩) trivial rfl ?_
         refine .q (op_assign rfl) trivial rfl ?_
         refine .nil ?_
         exact ⟨⟨i + 1, hi, good_step hv (by first | exact .inl (by simpa using hg50) | exact .inr (.inl (by simpa using hg54)) | exact .inr (.inr (by simpa using hc57)))⟩, by show _ - (i + 1) < _ - i; omega, StLe.mk [] rfl rfl ⟨⟨_, rfl, by first | rfl | (simp only [AV.ren]; congr 1; omega), rfl⟩, ⟨_, rfl, by first | rfl | (simp only [AV.ren]; congr 1; omega), rfl⟩, trivial⟩ trivial⟩
       ·skip
        refine .no ⟨_, rfl, rfl⟩ rfl ?_
        refine .no ⟨_, rfl, rfl⟩ rfl ?_
        refine .q (op_pick_false rfl rfl rfl) trivial rfl ?_
        refine .nil ?_
        show Ev _ _ _ _ _
        refine .cond_false rfl rfl ?_
        refine .skip ?_
        show Ev _ _ _ _ _
        refine .region ?_
        refine .q (op_move rfl) trivial rfl ?_
        refine .q (op_addI rfl rfl ⟨by omega, by omega⟩) trivial rfl ?_
        refine .q (op_assign rfl) trivial rfl ?_
        refine .nil ?_
        exact ⟨⟨i + 1, hi, good_step hv (by first | exact .inl (by simpa using hg50) | exact .inr (.inl (by simpa using hg54)) | exact .inr (.inr (by simpa using hc57)))⟩, by show _ - (i + 1) < _ - i; omega, StLe.mk [] rfl rfl ⟨⟨_, rfl, by first | rfl | (simp only [AV.ren]; congr 1; omega), rfl⟩, ⟨_, rfl, by first | rfl | (simp only [AV.ren]; congr 1; omega), rfl⟩, trivial⟩ trivial⟩
      ·skip
       refine .no ⟨_, rfl, rfl⟩ rfl ?_
       refine .no ⟨_, rfl, rfl⟩ rfl ?_
       refine .q (op_pick_false rfl rfl rfl) trivial rfl ?_
       refine .q (op_move rfl) trivial rfl ?_
       refine .no ⟨_, rfl, rfl⟩ rfl ?_
       refine .no ⟨_, rfl, rfl⟩ rfl ?_
       refine .q (op_pick_false rfl rfl rfl) trivial rfl ?_
       refine .nil ?_
       show Ev _ _ _ _ _
       refine .cond_false rfl rfl ?_
       refine .skip ?_
       show Ev _ _ _ _ _
       refine .region ?_
       refine .q (op_move rfl) trivial rfl ?_
       refine .q (op_addI rfl rfl ⟨by omega, by omega⟩) trivial rfl ?_
       refine .q (op_assign rfl) trivial rfl ?_
       refine .nil ?_
       exact ⟨⟨i + 1, hi, good_step hv (by first | exact .inl (by simpa using hg50) | exact .inr (.inl (by simpa using hg54)) | exact .inr (.inr (by simpa using hc57)))⟩, by show _ - (i + 1) < _ - i; omega, StLe.mk [] rfl rfl ⟨⟨_, rfl, by first | rfl | (simp only [AV.ren]; congr 1; omega), rfl⟩, ⟨_, rfl, by first | rfl | (simp only [AV.ren]; congr 1; omega), rfl⟩, trivial⟩ trivial⟩
     ·skip
      refine .no ⟨_, rfl, rfl⟩ rfl ?_
      refine .no ⟨_, rfl, rfl⟩ rfl ?_
      refine .no ⟨_, rfl, rfl⟩ rfl ?_
      refine .no ⟨_, rfl, rfl⟩ rfl ?_
      refine .no ⟨_, rfl, rfl⟩ rfl ?_
      refine .q (op_pick_false rfl rfl rfl) trivial rfl ?_
      refine .q (op_assign rfl) trivial rfl ?_
      refine .as (.bool (dashB s i)) (by unfold dashB; rw [show (s.getD i 0 == (45 : UInt8)) = _ from hg37]; first | rfl | (rw [hg41]; rfl)) ?_
      refine .nil ?_
      show Ev _ _ _ _ _
      refine .seq ?_
      refine .region ?_
      refine .q (op_move rfl) trivial rfl ?_
      refine .q (op_notB rfl) trivial rfl ?_
      refine .q (op_move rfl) trivial rfl ?_
      refine .split (fun hg50 => ?_) (fun hg50 => ?_)
      ·skip
       refine .q (op_move rfl) ⟨_, rfl, rfl⟩ rfl ?_
       refine .q (op_notB rfl) ⟨_, rfl, rfl⟩ rfl ?_
       refine .q (op_pick_true rfl rfl rfl) trivial rfl ?_
       refine .q (op_move rfl) trivial rfl ?_
       refine .split (fun hg54 => ?_) (fun hg54 => ?_)
       ·skip
        refine .q (op_move rfl) ⟨_, rfl, rfl⟩ rfl ?_
        refine .q (op_notB rfl) ⟨_, rfl, rfl⟩ rfl ?_
        refine .q (op_pick_true rfl rfl rfl) trivial rfl ?_
        refine .nil ?_
        show Ev _ _ _ _ _
        refine .cond rfl (fun hc57 => ?_) (fun hc57 => ?_)
        ·skip
         refine .seq ?_
         refine .region ?_
         refine .q (op_assign rfl) trivial rfl ?_
         refine .nil ?_
         show Ev _ _ _ _ _
         refine .ret ?_
         show RetOk _ _ _ _ _ _ _
         exact ret1v rfl (.inl rfl) rfl (congrArg AV.bool (by first | exact rv_bad hi hg50 hg54 hc57 | (rw [← rv_end hi0 (of_decide_eq_false hc10) hv, hg61]; rfl))) trivial
        ·skip
         refine .skip ?_
         show Ev _ _ _ _ _
         refine .region ?_
         refine .q (op_move rfl) trivial rfl ?_
         refine .q (op_addI rfl rfl ⟨by omega, by omega⟩) trivial rfl ?_
         refine .q (op_assign rfl) trivial rfl ?_
         refine .nil ?_
         exact ⟨⟨i + 1, hi, good_step hv (by first | exact .inl (by simpa using hg50) | exact .inr (.inl (by simpa using hg54)) | exact .inr (.inr (by simpa using hc57)))⟩, by show _ - (i + 1) < _ - i; omega, StLe.mk [] rfl rfl ⟨⟨_, rfl, by first | rfl | (simp only [AV.ren]; congr 1; omega), rfl⟩, ⟨_, rfl, by first | rfl | (simp only [AV.ren]; congr 1; omega), rfl⟩, trivial⟩ trivial⟩
       ·skip
        refine .no ⟨_, rfl, rfl⟩ rfl ?_
        refine .no ⟨_, rfl, rfl⟩ rfl ?_
        refine .q (op_pick_false rfl rfl rfl) trivial rfl ?_
        refine .nil ?_
        show Ev _ _ _ _ _
        refine .cond_false rfl rfl ?_
        refine .skip ?_
        show Ev _ _ _ _ _
        refine .region ?_
        refine .q (op_move rfl) trivial rfl ?_
        refine .q (op_addI rfl rfl ⟨by omega, by omega⟩) trivial rfl ?_
        refine .q (op_assign rfl) trivial rfl ?_
        refine .nil ?_
        exact ⟨⟨i + 1, hi, good_step hv (by first | exact .inl (by simpa using hg50) | exact .inr (.inl (by simpa using hg54)) | exact .inr (.inr (by simpa using hc57)))⟩, by show _ - (i + 1) < _ - i; omega, StLe.mk [] rfl rfl ⟨⟨_, rfl, by first | rfl | (simp only [AV.ren]; congr 1; omega), rfl⟩, ⟨_, rfl, by first | rfl | (simp only [AV.ren]; congr 1; omega), rfl⟩, trivial⟩ trivial⟩
      ·skip
       refine .no ⟨_, rfl, rfl⟩ rfl ?_
       refine .no ⟨_, rfl, rfl⟩ rfl ?_
       refine .q (op_pick_false rfl rfl rfl) trivial rfl ?_
       refine .q (op_move rfl) trivial rfl ?_
       refine .no ⟨_, rfl, rfl⟩ rfl ?_
       refine .no ⟨_, rfl, rfl⟩ rfl ?_
       refine .q (op_pick_false rfl rfl rfl) trivial rfl ?_
       refine .nil ?_
       show Ev _ _ _ _ _
       refine .cond_false rfl rfl ?_
       refine .skip ?_
       show Ev _ _ _ _ _
       refine .region ?_
       refine .q (op_move rfl) trivial rfl ?_
       refine .q (op_addI rfl rfl ⟨by omega, by omega⟩) trivial rfl ?_
       refine .q (op_assign rfl) trivial rfl ?_
       refine .nil ?_
       exact ⟨⟨i + 1, hi, good_step hv (by first | exact .inl (by simpa using hg50) | exact .inr (.inl (by simpa using hg54)) | exact .inr (.inr (by simpa using hc57)))⟩, by show _ - (i + 1) < _ - i; omega, StLe.mk [] rfl rfl ⟨⟨_, rfl, by first | rfl | (simp only [AV.ren]; congr 1; omega), rfl⟩, ⟨_, rfl, by first | rfl | (simp only [AV.ren]; congr 1; omega), rfl⟩, trivial⟩ trivial⟩
    ·skip
     refine .no ⟨_, rfl, rfl⟩ rfl ?_
     refine .no ⟨_, rfl, rfl⟩ rfl ?_
     refine .q (op_pick_false rfl rfl rfl) trivial rfl ?_
     refine .q (op_move rfl) trivial rfl ?_
     refine .no ⟨_, rfl, rfl⟩ rfl ?_
     refine .no ⟨_, rfl, rfl⟩ rfl ?_
     refine .no ⟨_, rfl, rfl⟩ rfl ?_
     refine .no ⟨_, rfl, rfl⟩ rfl ?_
     refine .no ⟨_, rfl, rfl⟩ rfl ?_
     refine .q (op_pick_false rfl rfl rfl) trivial rfl ?_
     refine .q (op_assign rfl) trivial rfl ?_
     refine .as (.bool (dashB s i)) (by unfold dashB; rw [show (s.getD i 0 == (45 : UInt8)) = _ from hg37]; first | rfl | (rw [hg41]; rfl)) ?_
     refine .nil ?_
     show Ev _ _ _ _ _
     refine .seq ?_
     refine .region ?_
     refine .q (op_move rfl) trivial rfl ?_
     refine .q (op_notB rfl) trivial rfl ?_
     refine .q (op_move rfl) trivial rfl ?_
     refine .split (fun hg50 => ?_) (fun hg50 => ?_)
     ·skip
      refine .q (op_move rfl) ⟨_, rfl, rfl⟩ rfl ?_
      refine .q (op_notB rfl) ⟨_, rfl, rfl⟩ rfl ?_
      refine .q (op_pick_true rfl rfl rfl) trivial rfl ?_
      refine .q (op_move rfl) trivial rfl ?_
      refine .split (fun hg54 => ?_) (fun hg54 => ?_)
      ·skip
       refine .q (op_move rfl) ⟨_, rfl, rfl⟩ rfl ?_
       refine .q (op_notB rfl) ⟨_, rfl, rfl⟩ rfl ?_
       refine .q (op_pick_true rfl rfl rfl) trivial rfl ?_
       refine .nil ?_
       show Ev _ _ _ _ _
       refine .cond rfl (fun hc57 => ?_) (fun hc57 => ?_)
       ·skip
        refine .seq ?_
        refine .region ?_
        refine .q (op_assign rfl) trivial rfl ?_
        refine .nil ?_
        show Ev _ _ _ _ _
        refine .ret ?_
        show RetOk _ _ _ _ _ _ _
        exact ret1v rfl (.inl rfl) rfl (congrArg AV.bool (by first | exact rv_bad hi hg50 hg54 hc57 | (rw [← rv_end hi0 (of_decide_eq_false hc10) hv, hg61]; rfl))) trivial
       ·skip
        refine .skip ?_
        show Ev _ _ _ _ _
        refine .region ?_
        refine .q (op_move rfl) trivial rfl ?_
        refine .q (op_addI rfl rfl ⟨by omega, by omega⟩) trivial rfl ?_
        refine .q (op_assign rfl) trivial rfl ?_
        refine .nil ?_
        exact ⟨⟨i + 1, hi, good_step hv (by first | exact .inl (by simpa using hg50) | exact .inr (.inl (by simpa using hg54)) | exact .inr (.inr (by simpa using hc57)))⟩, by show _ - (i + 1) < _ - i; omega, StLe.mk [] rfl rfl ⟨⟨_, rfl, by first | rfl | (simp only [AV.ren]; congr 1; omega), rfl⟩, ⟨_, rfl, by first | rfl | (simp only [AV.ren]; congr 1; omega), rfl⟩, trivial⟩ trivial⟩
      ·skip
       refine .no ⟨_, rfl, rfl⟩ rfl ?_
       refine .no ⟨_, rfl, rfl⟩ rfl ?_
       refine .q (op_pick_false rfl rfl rfl) trivial rfl ?_
       refine .nil ?_
       show Ev _ _ _ _ _
       refine .cond_false rfl rfl ?_
       refine .skip ?_
       show Ev _ _ _ _ _
       refine .region ?_
       refine .q (op_move rfl) trivial rfl ?_
       refine .q (op_addI rfl rfl ⟨by omega, by omega⟩) trivial rfl ?_
       refine .q (op_assign rfl) trivial rfl ?_
       refine .nil ?_
       exact ⟨⟨i + 1, hi, good_step hv (by first | exact .inl (by simpa using hg50) | exact .inr (.inl (by simpa using hg54)) | exact .inr (.inr (by simpa using hc57)))⟩, by show _ - (i + 1) < _ - i; omega, StLe.mk [] rfl rfl ⟨⟨_, rfl, by first | rfl | (simp only [AV.ren]; congr 1; omega), rfl⟩, ⟨_, rfl, by first | rfl | (simp only [AV.ren]; congr 1; omega), rfl⟩, trivial⟩ trivial⟩
     ·skip
      refine .no ⟨_, rfl, rfl⟩ rfl ?_
      refine .no ⟨_, rfl, rfl⟩ rfl ?_
      refine .q (op_pick_false rfl rfl rfl) trivial rfl ?_
      refine .q (op_move rfl) trivial rfl ?_
      refine .no ⟨_, rfl, rfl⟩ rfl ?_
      refine .no ⟨_, rfl, rfl⟩ rfl ?_
      refine .q (op_pick_false rfl rfl rfl) trivial rfl ?_
      refine .nil ?_
      show Ev _ _ _ _ _
      refine .cond_false rfl rfl ?_
      refine .skip ?_
      show Ev _ _ _ _ _
      refine .region ?_
      refine .q (op_move rfl) trivial rfl ?_
      refine .q (op_addI rfl rfl ⟨by omega, by omega⟩) trivial rfl ?_
      refine .q (op_assign rfl) trivial rfl ?_
      refine .nil ?_
      exact ⟨⟨i + 1, hi, good_step hv (by first | exact .inl (by simpa using hg50) | exact .inr (.inl (by simpa using hg54)) | exact .inr (.inr (by simpa using hc57)))⟩, by show _ - (i + 1) < _ - i; omega, StLe.mk [] rfl rfl ⟨⟨_, rfl, by first | rfl | (simp only [AV.ren]; congr 1; omega), rfl⟩, ⟨_, rfl, by first | rfl | (simp only [AV.ren]; congr 1; omega), rfl⟩, trivial⟩ trivial⟩
   ·skip
    refine .no ⟨_, rfl, rfl⟩ rfl ?_
    refine .no ⟨_, rfl, rfl⟩ rfl ?_
    refine .no ⟨_, rfl, rfl⟩ rfl ?_
    refine .no ⟨_, rfl, rfl⟩ rfl ?_
    refine .q (op_pick_false rfl rfl rfl) trivial rfl ?_
    refine .q (op_assign rfl) trivial rfl ?_
    refine .as (.bool (digitB (s.getD i 0))) (by unfold digitB; rw [show decide ((48 : UInt8) ≤ s.getD i 0) = _ from hg27]; rfl) ?_
    refine .nil ?_
    show Ev _ _ _ _ _
    refine .seq ?_
    refine .region ?_
    refine .q (op_move rfl) trivial rfl ?_
    refine .q (op_move rfl) trivial rfl ?_
    refine .q (op_index_str Tryd.underlying9 rfl rfl (i := i) rfl (hi)) trivial rfl ?_
    refine .q (op_bin8 rfl rfl rfl) trivial rfl ?_
    refine .q (op_move rfl) trivial rfl ?_
    refine .split (fun hg37 => ?_) (fun hg37 => ?_)
    ·skip
     refine .q (op_move rfl) ⟨_, rfl, rfl⟩ rfl ?_
     refine .q (op_cmpI rfl rfl rfl) ⟨_, rfl, rfl⟩ rfl ?_
     refine .q (op_pick_true rfl rfl rfl) trivial rfl ?_
     refine .q (op_move rfl) trivial rfl ?_
     refine .split (fun hg41 => ?_) (fun hg41 => ?_)
     ·skip
      refine .q (op_move rfl) ⟨_, rfl, rfl⟩ rfl ?_
      refine .q (op_addI rfl rfl ⟨by omega, by omega⟩) ⟨_, rfl, rfl⟩ rfl ?_
      refine .q (op_move rfl) ⟨_, rfl, rfl⟩ rfl ?_
      refine .q (op_len_str Tryd.underlying9 rfl) ⟨_, rfl, rfl⟩ rfl ?_
      refine .q (op_cmpI rfl rfl rfl) ⟨_, rfl, rfl⟩ rfl ?_
      refine .q (op_pick_true rfl rfl rfl) trivial rfl ?_
      refine .q (op_assign rfl) trivial rfl ?_
      refine .as (.bool (dashB s i)) (by unfold dashB; rw [show (s.getD i 0 == (45 : UInt8)) = _ from hg37]; first | rfl | (rw [hg41]; rfl)) ?_
      refine .nil ?_
      show Ev _ _ _ _ _
      refine .seq ?_
      refine .region ?_
      refine .q (op_move rfl) trivial rfl ?_
      refine .q (op_notB rfl) trivial rfl ?_
      refine .q (op_move rfl) trivial rfl ?_
      refine .split (fun hg50 => ?_) (fun hg50 => ?_)
      ·skip
       refine .q (op_move rfl) ⟨_, rfl, rfl⟩ rfl ?_
       refine .q (op_notB rfl) ⟨_, rfl, rfl⟩ rfl ?_
       refine .q (op_pick_true rfl rfl rfl) trivial rfl ?_
       refine .q (op_move rfl) trivial rfl ?_
       refine .split (fun hg54 => ?_) (fun hg54 => ?_)
       ·skip
        refine .q (op_move rfl) ⟨_, rfl, rfl⟩ rfl ?_
        refine .q (op_notB rfl) ⟨_, rfl, rfl⟩ rfl ?_
        refine .q (op_pick_true rfl rfl rfl) trivial rfl ?_
        refine .nil ?_
        show Ev _ _ _ _ _
        refine .cond rfl (fun hc57 => ?_) (fun hc57 => ?_)
        ·skip
         refine .seq ?_
         refine .region ?_
         refine .q (op_assign rfl) trivial rfl ?_
         refine .nil ?_
         show Ev _ _ _ _ _
         refine .ret ?_
         show RetOk _ _ _ _ _ _ _
         exact ret1v rfl (.inl rfl) rfl (congrArg AV.bool (by first | exact rv_bad hi hg50 hg54 hc57 | (rw [← rv_end hi0 (of_decide_eq_false hc10) hv, hg61]; rfl))) trivial
        ·skip
         refine .skip ?_
         show Ev _ _ _ _ _
         refine .region ?_
         refine .q (op_move rfl) trivial rfl ?_
         refine .q (op_addI rfl rfl ⟨by omega, by omega⟩) trivial rfl ?_
         refine .q (op_assign rfl) trivial rfl ?_
         refine .nil ?_
         exact ⟨⟨i + 1, hi, good_step hv (by first | exact .inl (by simpa using hg50) | exact .inr (.inl (by simpa using hg54)) | exact .inr (.inr (by simpa using hc57)))⟩, by show _ - (i + 1) < _ - i; omega, StLe.mk [] rfl rfl ⟨⟨_, rfl, by first | rfl | (simp only [AV.ren]; congr 1; omega), rfl⟩, ⟨_, rfl, by first | rfl | (simp only [AV.ren]; congr 1; omega), rfl⟩, trivial⟩ trivial⟩
       ·skip
        refine .no ⟨_, rfl, rfl⟩ rfl ?_
        refine .no ⟨_, rfl, rfl⟩ rfl ?_
        refine .q (op_pick_false rfl rfl rfl) trivial rfl ?_
        refine .nil ?_
        show Ev _ _ _ _ _
        refine .cond_false rfl rfl ?_
        refine .skip ?_
        show Ev _ _ _ _ _
        refine .region ?_
        refine .q (op_move rfl) trivial rfl ?_
        refine .q (op_addI rfl rfl ⟨by omega, by omega⟩) trivial rfl ?_
        refine .q (op_assign rfl) trivial rfl ?_
        refine .nil ?_
        exact ⟨⟨i + 1, hi, good_step hv (by first | exact .inl (by simpa using hg50) | exact .inr (.inl (by simpa using hg54)) | exact .inr (.inr (by simpa using hc57)))⟩, by show _ - (i + 1) < _ - i; omega, StLe.mk [] rfl rfl ⟨⟨_, rfl, by first | rfl | (simp only [AV.ren]; congr 1; omega), rfl⟩, ⟨_, rfl, by first | rfl | (simp only [AV.ren]; congr 1; omega), rfl⟩, trivial⟩ trivial⟩
      ·skip
       refine .no ⟨_, rfl, rfl⟩ rfl ?_
       refine .no ⟨_, rfl, rfl⟩ rfl ?_
       refine .q (op_pick_false rfl rfl rfl) trivial rfl ?_
       refine .q (op_move rfl) trivial rfl ?_
       refine .no ⟨_, rfl, rfl⟩ rfl ?_
       refine .no ⟨_, rfl, rfl⟩ rfl ?_
       refine .q (op_pick_false rfl rfl rfl) trivial rfl ?_
       refine .nil ?_
       show Ev _ _ _ _ _
       refine .cond_false rfl rfl ?_
       refine .skip ?_
       show Ev _ _ _ _ _
       refine .region ?_
       refine .q (op_move rfl) trivial rfl ?_
       refine .q (op_addI rfl rfl ⟨by omega, by omega⟩) trivial rfl ?_
       refine .q (op_assign rfl) trivial rfl ?_
       refine .nil ?_
       exact ⟨⟨i + 1, hi, good_step hv (by first | exact .inl (by simpa using hg50) | exact .inr (.inl (by simpa using hg54)) | exact .inr (.inr (by simpa using hc57)))⟩, by show _ - (i + 1) < _ - i; omega, StLe.mk [] rfl rfl ⟨⟨_, rfl, by first | rfl | (simp only [AV.ren]; congr 1; omega), rfl⟩, ⟨_, rfl, by first | rfl | (simp only [AV.ren]; congr 1; omega), rfl⟩, trivial⟩ trivial⟩
     ·skip
      refine .no ⟨_, rfl, rfl⟩ rfl ?_
      refine .no ⟨_, rfl, rfl⟩ rfl ?_
      refine .no ⟨_, rfl, rfl⟩ rfl ?_
      refine .no ⟨_, rfl, rfl⟩ rfl ?_
      refine .no ⟨_, rfl, rfl⟩ rfl ?_
      refine .q (op_pick_false rfl rfl rfl) trivial rfl ?_
      refine .q (op_assign rfl) trivial rfl ?_
      refine .as (.bool (dashB s i)) (by unfold dashB; rw [show (s.getD i 0 == (45 : UInt8)) = _ from hg37]; first | rfl | (rw [hg41]; rfl)) ?_
      refine .nil ?_
      show Ev _ _ _ _ _
      refine .seq ?_
      refine .region ?_
      refine .q (op_move rfl) trivial rfl ?_
      refine .q (op_notB rfl) trivial rfl ?_
      refine .q (op_move rfl) trivial rfl ?_
      refine .split (fun hg50 => ?_) (fun hg50 => ?_)
      ·skip
       refine .q (op_move rfl) ⟨_, rfl, rfl⟩ rfl ?_
       refine .q (op_notB rfl) ⟨_, rfl, rfl⟩ rfl ?_
       refine .q (op_pick_true rfl rfl rfl) trivial rfl ?_
       refine .q (op_move rfl) trivial rfl ?_
       refine .split (fun hg54 => ?_) (fun hg54 => ?_)
       ·skip
        refine .q (op_move rfl) ⟨_, rfl, rfl⟩ rfl ?_
        refine .q (op_notB rfl) ⟨_, rfl, rfl⟩ rfl ?_
        refine .q (op_pick_true rfl rfl rfl) trivial rfl ?_
        refine .nil ?_
        show Ev _ _ _ _ _
        refine .cond rfl (fun hc57 => ?_) (fun hc57 => ?_)
        ·skip
         refine .seq ?_
         refine .region ?_
         refine .q (op_assign rfl) trivial rfl ?_
         refine .nil ?_
         show Ev _ _ _ _ _
         refine .ret ?_
         show RetOk _ _ _ _ _ _ _
         exact ret1v rfl (.inl rfl) rfl (congrArg AV.bool (by first | exact rv_bad hi hg50 hg54 hc57 | (rw [← rv_end hi0 (of_decide_eq_false hc10) hv, hg61]; rfl))) trivial
        ·skip
         refine .skip ?_
         show Ev _ _ _ _ _
         refine .region ?_
         refine .q (op_move rfl) trivial rfl ?_
         refine .q (op_addI rfl rfl ⟨by omega, by omega⟩) trivial rfl ?_
         refine .q (op_assign rfl) trivial rfl ?_
         refine .nil ?_
         exact ⟨⟨i + 1, hi, good_step hv (by first | exact .inl (by simpa using hg50) | exact .inr (.inl (by simpa using hg54)) | exact .inr (.inr (by simpa using hc57)))⟩, by show _ - (i + 1) < _ - i; omega, StLe.mk [] rfl rfl ⟨⟨_, rfl, by first | rfl | (simp only [AV.ren]; congr 1; omega), rfl⟩, ⟨_, rfl, by first | rfl | (simp only [AV.ren]; congr 1; omega), rfl⟩, trivial⟩ trivial⟩
       ·skip
        refine .no ⟨_, rfl, rfl⟩ rfl ?_
        refine .no ⟨_, rfl, rfl⟩ rfl ?_
        refine .q (op_pick_false rfl rfl rfl) trivial rfl ?_
        refine .nil ?_
        show Ev _ _ _ _ _
        refine .cond_false rfl rfl ?_
        refine .skip ?_
        show Ev _ _ _ _ _
        refine .region ?_
        refine .q (op_move rfl) trivial rfl ?_
        refine .q (op_addI rfl rfl ⟨by omega, by omega⟩) trivial rfl ?_
        refine .q (op_assign rfl) trivial rfl ?_
        refine .nil ?_
        exact ⟨⟨i + 1, hi, good_step hv (by first | exact .inl (by simpa using hg50) | exact .inr (.inl (by simpa using hg54)) | exact .inr (.inr (by simpa using hc57)))⟩, by show _ - (i + 1) < _ - i; omega, StLe.mk [] rfl rfl ⟨⟨_, rfl, by first | rfl | (simp only [AV.ren]; congr 1; omega), rfl⟩, ⟨_, rfl, by first | rfl | (simp only [AV.ren]; congr 1; omega), rfl⟩, trivial⟩ trivial⟩
      ·skip
       refine .no ⟨_, rfl, rfl⟩ rfl ?_
       refine .no ⟨_, rfl, rfl⟩ rfl ?_
       refine .q (op_pick_false rfl rfl rfl) trivial rfl ?_
       refine .q (op_move rfl) trivial rfl ?_
       refine .no ⟨_, rfl, rfl⟩ rfl ?_
       refine .no ⟨_, rfl, rfl⟩ rfl ?_
       refine .q (op_pick_false rfl rfl rfl) trivial rfl ?_
       refine .nil ?_
       show Ev _ _ _ _ _
       refine .cond_false rfl rfl ?_
       refine .skip ?_
       show Ev _ _ _ _ _
       refine .region ?_
       refine .q (op_move rfl) trivial rfl ?_
       refine .q (op_addI rfl rfl ⟨by omega, by omega⟩) trivial rfl ?_
       refine .q (op_assign rfl) trivial rfl ?_
       refine .nil ?_
       exact ⟨⟨i + 1, hi, good_step hv (by first | exact .inl (by simpa using hg50) | exact .inr (.inl (by simpa using hg54)) | exact .inr (.inr (by simpa using hc57)))⟩, by show _ - (i + 1) < _ - i; omega, StLe.mk [] rfl rfl ⟨⟨_, rfl, by first | rfl | (simp only [AV.ren]; congr 1; omega), rfl⟩, ⟨_, rfl, by first | rfl | (simp only [AV.ren]; congr 1; omega), rfl⟩, trivial⟩ trivial⟩
    ·skip
     refine .no ⟨_, rfl, rfl⟩ rfl ?_
     refine .no ⟨_, rfl, rfl⟩ rfl ?_
     refine .q (op_pick_false rfl rfl rfl) trivial rfl ?_
     refine .q (op_move rfl) trivial rfl ?_
     refine .no ⟨_, rfl, rfl⟩ rfl ?_
     refine .no ⟨_, rfl, rfl⟩ rfl ?_
     refine .no ⟨_, rfl, rfl⟩ rfl ?_
     refine .no ⟨_, rfl, rfl⟩ rfl ?_
     refine .no ⟨_, rfl, rfl⟩ rfl ?_
     refine .q (op_pick_false rfl rfl rfl) trivial rfl ?_
     refine .q (op_assign rfl) trivial rfl ?_
     refine .as (.bool (dashB s i)) (by unfold dashB; rw [show (s.getD i 0 == (45 : UInt8)) = _ from hg37]; first | rfl | (rw [hg41]; rfl)) ?_
     refine .nil ?_
     show Ev _ _ _ _ _
     refine .seq ?_
     refine .region ?_
     refine .q (op_move rfl) trivial rfl ?_
     refine .q (op_notB rfl) trivial rfl ?_
     refine .q (op_move rfl) trivial rfl ?_
     refine .split (fun hg50 => ?_) (fun hg50 => ?_)
     ·skip
      refine .q (op_move rfl) ⟨_, rfl, rfl⟩ rfl ?_
      refine .q (op_notB rfl) ⟨_, rfl, rfl⟩ rfl ?_
      refine .q (op_pick_true rfl rfl rfl) trivial rfl ?_
      refine .q (op_move rfl) trivial rfl ?_
      refine .split (fun hg54 => ?_) (fun hg54 => ?_)
      ·skip
       refine .q (op_move rfl) ⟨_, rfl, rfl⟩ rfl ?_
       refine .q (op_notB rfl) ⟨_, rfl, rfl⟩ rfl ?_
       refine .q (op_pick_true rfl rfl rfl) trivial rfl ?_
       refine .nil ?_
       show Ev _ _ _ _ _
       refine .cond rfl (fun hc57 => ?_) (fun hc57 => ?_)
       ·skip
        refine .seq ?_
        refine .region ?_
        refine .q (op_assign rfl) trivial rfl ?_
        refine .nil ?_
        show Ev _ _ _ _ _
        refine .ret ?_
        show RetOk _ _ _ _ _ _ _
        exact ret1v rfl (.inl rfl) rfl (congrArg AV.bool (by first | exact rv_bad hi hg50 hg54 hc57 | (rw [← rv_end hi0 (of_decide_eq_false hc10) hv, hg61]; rfl))) trivial
       ·skip
        refine .skip ?_
        show Ev _ _ _ _ _
        refine .region ?_
        refine .q (op_move rfl) trivial rfl ?_
        refine .q (op_addI rfl rfl ⟨by omega, by omega⟩) trivial rfl ?_
        refine .q (op_assign rfl) trivial rfl ?_
        refine .nil ?_
        exact ⟨⟨i + 1, hi, good_step hv (by first | exact .inl (by simpa using hg50) | exact .inr (.inl (by simpa using hg54)) | exact .inr (.inr (by simpa using hc57)))⟩, by show _ - (i + 1) < _ - i; omega, StLe.mk [] rfl rfl ⟨⟨_, rfl, by first | rfl | (simp only [AV.ren]; congr 1; omega), rfl⟩, ⟨_, rfl, by first | rfl | (simp only [AV.ren]; congr 1; omega), rfl⟩, trivial⟩ trivial⟩
      ·skip
       refine .no ⟨_, rfl, rfl⟩ rfl ?_
       refine .no ⟨_, rfl, rfl⟩ rfl ?_
       refine .q (op_pick_false rfl rfl rfl) trivial rfl ?_
       refine .nil ?_
       show Ev _ _ _ _ _
       refine .cond_false rfl rfl ?_
       refine .skip ?_
       show Ev _ _ _ _ _
       refine .region ?_
       refine .q (op_move rfl) trivial rfl ?_
       refine .q (op_addI rfl rfl ⟨by omega, by omega⟩) trivial rfl ?_
       refine .q (op_assign rfl) trivial rfl ?_
       refine .nil ?_
       exact ⟨⟨i + 1, hi, good_step hv (by first | exact .inl (by simpa using hg50) | exact .inr (.inl (by simpa using hg54)) | exact .inr (.inr (by simpa using hc57)))⟩, by show _ - (i + 1) < _ - i; omega, StLe.mk [] rfl rfl ⟨⟨_, rfl, by first | rfl | (simp only [AV.ren]; congr 1; omega), rfl⟩, ⟨_, rfl, by first | rfl | (simp only [AV.ren]; congr 1; omega), rfl⟩, trivial⟩ trivial⟩
     ·skip
      refine .no ⟨_, rfl, rfl⟩ rfl ?_
      refine .no ⟨_, rfl, rfl⟩ rfl ?_
      refine .q (op_pick_false rfl rfl rfl) trivial rfl ?_
      refine .q (op_move rfl) trivial rfl ?_
      refine .no ⟨_, rfl, rfl⟩ rfl ?_
      refine .no ⟨_, rfl, rfl⟩ rfl ?_
      refine .q (op_pick_false rfl rfl rfl) trivial rfl ?_
      refine .nil ?_
      show Ev _ _ _ _ _
      refine .cond_false rfl rfl ?_
      refine .skip ?_
      show Ev _ _ _ _ _
      refine .region ?_
      refine .q (op_move rfl) trivial rfl ?_
      refine .q (op_addI rfl rfl ⟨by omega, by omega⟩) trivial rfl ?_
      refine .q (op_assign rfl) trivial rfl ?_
      refine .nil ?_
      exact ⟨⟨i + 1, hi, good_step hv (by first | exact .inl (by simpa using hg50) | exact .inr (.inl (by simpa using hg54)) | exact .inr (.inr (by simpa using hc57)))⟩, by show _ - (i + 1) < _ - i; omega, StLe.mk [] rfl rfl ⟨⟨_, rfl, by first | rfl | (simp only [AV.ren]; congr 1; omega), rfl⟩, ⟨_, rfl, by first | rfl | (simp only [AV.ren]; congr 1; omega), rfl⟩, trivial⟩ trivial⟩
  ·skip
   refine .no ⟨_, rfl, rfl⟩ rfl ?_
   refine .no ⟨_, rfl, rfl⟩ rfl ?_
   refine .no ⟨_, rfl, rfl⟩ rfl ?_
   refine .no ⟨_, rfl, rfl⟩ rfl ?_
   refine .q (op_pick_false rfl rfl rfl) trivial rfl ?_
   refine .q (op_assign rfl) trivial rfl ?_
   refine .as (.bool (smallB (s.getD i 0))) (by unfold smallB; rw [show decide ((97 : UInt8) ≤ s.getD i 0) = _ from hg17]; rfl) ?_
   refine .nil ?_
   show Ev _ _ _ _ _
   refine .seq ?_
   refine .region ?_
   refine .q (op_move rfl) trivial rfl ?_
   refine .q (op_move rfl) trivial rfl ?_
   refine .q (op_index_str Tryd.underlying9 rfl rfl (i := i) rfl (hi)) trivial rfl ?_
   refine .q (op_bin8 rfl rfl rfl) trivial rfl ?_
   refine .q (op_move rfl) trivial rfl ?_
   refine .split (fun hg27 => ?_) (fun hg27 => ?_)
   ·skip
    refine .q (op_move rfl) ⟨_, rfl, rfl⟩ rfl ?_
    refine .q (op_move rfl) ⟨_, rfl, rfl⟩ rfl ?_
    refine .q (op_index_str Tryd.underlying9 rfl rfl (i := i) rfl (hi)) ⟨_, rfl, rfl⟩ rfl ?_
    refine .q (op_bin8 rfl rfl rfl) ⟨_, rfl, rfl⟩ rfl ?_
    refine .q (op_pick_true rfl rfl rfl) trivial rfl ?_
    refine .q (op_assign rfl) trivial rfl ?_
    refine .as (.bool (digitB (s.getD i 0))) (by unfold digitB; rw [show decide ((48 : UInt8) ≤ s.getD i 0) = _ from hg27]; rfl) ?_
    refine .nil ?_
    show Ev _ _ _ _ _
    refine .seq ?_
    refine .region ?_
    refine .q (op_move rfl) trivial rfl ?_
    refine .q (op_move rfl) trivial rfl ?_
    refine .q (op_index_str Tryd.underlying9 rfl rfl (i := i) rfl (hi)) trivial rfl ?_
    refine .q (op_bin8 rfl rfl rfl) trivial rfl ?_
    refine .q (op_move rfl) trivial rfl ?_
    refine .split (fun hg37 => ?_) (fun hg37 => ?_)
    ·skip
     refine .q (op_move rfl) ⟨_, rfl, rfl⟩ rfl ?_
     refine .q (op_cmpI rfl rfl rfl) ⟨_, rfl, rfl⟩ rfl ?_
     refine .q (op_pick_true rfl rfl rfl) trivial rfl ?_
     refine .q (op_move rfl) trivial rfl ?_
     refine .split (fun hg41 => ?_) (fun hg41 => ?_)
     ·skip
      refine .q (op_move rfl) ⟨_, rfl, rfl⟩ rfl ?_
      refine .q (op_addI rfl rfl ⟨by omega, by omega⟩) ⟨_, rfl, rfl⟩ rfl ?_
      refine .q (op_move rfl) ⟨_, rfl, rfl⟩ rfl ?_
      refine .q (op_len_str Tryd.underlying9 rfl) ⟨_, rfl, rfl⟩ rfl ?_
      refine .q (op_cmpI rfl rfl rfl) ⟨_, rfl, rfl⟩ rfl ?_
      refine .q (op_pick_true rfl rfl rfl) trivial rfl ?_
      refine .q (op_assign rfl) trivial rfl ?_
      refine .as (.bool (dashB s i)) (by unfold dashB; rw [show (s.getD i 0 == (45 : UInt8)) = _ from hg37]; first | rfl | (rw [hg41]; rfl)) ?_
      refine .nil ?_
      show Ev _ _ _ _ _
      refine .seq ?_
      refine .region ?_
      refine .q (op_move rfl) trivial rfl ?_
      refine .q (op_notB rfl) trivial rfl ?_
      refine .q (op_move rfl) trivial rfl ?_
      refine .split (fun hg50 => ?_) (fun hg50 => ?_)
      ·skip
       refine .q (op_move rfl) ⟨_, rfl, rfl⟩ rfl ?_
       refine .q (op_notB rfl) ⟨_, rfl, rfl⟩ rfl ?_
       refine .q (op_pick_true rfl rfl rfl) trivial rfl ?_
       refine .q (op_move rfl) trivial rfl ?_
       refine .split (fun hg54 => ?_) (fun hg54 => ?_)
       ·skip
        refine .q (op_move rfl) ⟨_, rfl, rfl⟩ rfl ?_
        refine .q (op_notB rfl) ⟨_, rfl, rfl⟩ rfl ?_
        refine .q (op_pick_true rfl rfl rfl) trivial rfl ?_
        refine .nil ?_
        show Ev _ _ _ _ _
        refine .cond rfl (fun hc57 => ?_) (fun hc57 => ?_)
        ·skip
         refine .seq ?_
         refine .region ?_
         refine .q (op_assign rfl) trivial rfl ?_
         refine .nil ?_
         show Ev _ _ _ _ _
         refine .ret ?_
         show RetOk _ _ _ _ _ _ _
         exact ret1v rfl (.inl rfl) rfl (congrArg AV.bool (by first | exact rv_bad hi hg50 hg54 hc57 | (rw [← rv_end hi0 (of_decide_eq_false hc10) hv, hg61]; rfl))) trivial
        ·skip
         refine .skip ?_
         show Ev _ _ _ _ _
         refine .region ?_
         refine .q (op_move rfl) trivial rfl ?_
         refine .q (op_addI rfl rfl ⟨by omega, by omega⟩) trivial rfl ?_
         refine .q (op_assign rfl) trivial rfl ?_
         refine .nil ?_
         exact ⟨⟨i + 1, hi, good_step hv (by first | exact .inl (by simpa using hg50) | exact .inr (.inl (by simpa using hg54)) | exact .inr (.inr (by simpa using hc57)))⟩, by show _ - (i + 1) < _ - i; omega, StLe.mk [] rfl rfl ⟨⟨_, rfl, by first | rfl | (simp only [AV.ren]; congr 1; omega), rfl⟩, ⟨_, rfl, by first | rfl | (simp only [AV.ren]; congr 1; omega), rfl⟩, trivial⟩ trivial⟩
       ·skip
        refine .no ⟨_, rfl, rfl⟩ rfl ?_
        refine .no ⟨_, rfl, rfl⟩ rfl ?_
        refine .q (op_pick_false rfl rfl rfl) trivial rfl ?_
        refine .nil ?_
        show Ev _ _ _ _ _
        refine .cond_false rfl rfl ?_
        refine .skip ?_
        show Ev _ _ _ _ _
        refine .region ?_
        refine .q (op_move rfl) trivial rfl ?_
        refine .q (op_addI rfl rfl ⟨by omega, by omega⟩) trivial rfl ?_
        refine .q (op_assign rfl) trivial rfl ?_
        refine .nil ?_
        exact ⟨⟨i + 1, hi, good_step hv (by first | exact .inl (by simpa using hg50) | exact .inr (.inl (by simpa using hg54)) | exact .inr (.inr (by simpa using hc57)))⟩, by show _ - (i + 1) < _ - i; omega, StLe.mk [] rfl rfl ⟨⟨_, rfl, by first | rfl | (simp only [AV.ren]; congr 1; omega), rfl⟩, ⟨_, rfl, by first | rfl | (simp only [AV.ren]; congr 1; omega), rfl⟩, trivial⟩ trivial⟩
      ·skip
       refine .no ⟨_, rfl, rfl⟩ rfl ?_
       refine .no ⟨_, rfl, rfl⟩ rfl ?_
       refine .q (op_pick_false rfl rfl rfl) trivial rfl ?_
       refine .q (op_move rfl) trivial rfl ?_
       refine .no ⟨_, rfl, rfl⟩ rfl ?_
       refine .no ⟨_, rfl, rfl⟩ rfl ?_
       refine .q (op_pick_false rfl rfl rfl) trivial rfl ?_
       refine .nil ?_
       show Ev _ _ _ _ _
       refine .cond_false rfl rfl ?_
       refine .skip ?_
       show Ev _ _ _ _ _
       refine .region ?_
       refine .q (op_move rfl) trivial rfl ?_
       refine .q (op_addI rfl rfl ⟨by omega, by omega⟩) trivial rfl ?_
       refine .q (op_assign rfl) trivial rfl ?_
       refine .nil ?_
       exact ⟨⟨i + 1, hi, good_step hv (by first | exact .inl (by simpa using hg50) | exact .inr (.inl (by simpa using hg54)) | exact .inr (.inr (by simpa using hc57)))⟩, by show _ - (i + 1) < _ - i; omega, StLe.mk [] rfl rfl ⟨⟨_, rfl, by first | rfl | (simp only [AV.ren]; congr 1; omega), rfl⟩, ⟨_, rfl, by first | rfl | (simp only [AV.ren]; congr 1; omega), rfl⟩, trivial⟩ trivial⟩
     ·skip
      refine .no ⟨_, rfl, rfl⟩ rfl ?_
      refine .no ⟨_, rfl, rfl⟩ rfl ?_
      refine .no ⟨_, rfl, rfl⟩ rfl ?_
      refine .no ⟨_, rfl, rfl⟩ rfl ?_
      refine .no ⟨_, rfl, rfl⟩ rfl ?_
      refine .q (op_pick_false rfl rfl rfl) trivial rfl ?_
      refine .q (op_assign rfl) trivial rfl ?_
      refine .as (.bool (dashB s i)) (by unfold dashB; rw [show (s.getD i 0 == (45 : UInt8)) = _ from hg37]; first | rfl | (rw [hg41]; rfl)) ?_
      refine .nil ?_
      show Ev _ _ _ _ _
      refine .seq ?_
      refine .region ?_
      refine .q (op_move rfl) trivial rfl ?_
      refine .q (op_notB rfl) trivial rfl ?_
      refine .q (op_move rfl) trivial rfl ?_
      refine .split (fun hg50 => ?_) (fun hg50 => ?_)
      ·skip
       refine .q (op_move rfl) ⟨_, rfl, rfl⟩ rfl ?_
       refine .q (op_notB rfl) ⟨_, rfl, rfl⟩ rfl ?_
       refine .q (op_pick_true rfl rfl rfl) trivial rfl ?_
       refine .q (op_move rfl) trivial rfl ?_
       refine .split (fun hg54 => ?_) (fun hg54 => ?_)
       ·skip
        refine .q (op_move rfl) ⟨_, rfl, rfl⟩ rfl ?_
        refine .q (op_notB rfl) ⟨_, rfl, rfl⟩ rfl ?_
        refine .q (op_pick_true rfl rfl rfl) trivial rfl ?_
        refine .nil ?_
        show Ev _ _ _ _ _
        refine .cond rfl (fun hc57 => ?_) (fun hc57 => ?_)
        ·skip
         refine .seq ?_
         refine .region ?_
         refine .q (op_assign rfl) trivial rfl ?_
         refine .nil ?_
         show Ev _ _ _ _ _
         refine .ret ?_
         show RetOk _ _ _ _ _ _ _
         exact ret1v rfl (.inl rfl) rfl (congrArg AV.bool (by first | exact rv_bad hi hg50 hg54 hc57 | (rw [← rv_end hi0 (of_decide_eq_false hc10) hv, hg61]; rfl))) trivial
        ·skip
         refine .skip ?_
         show Ev _ _ _ _ _
         refine .region ?_
         refine .q (op_move rfl) trivial rfl ?_
         refine .q (op_addI rfl rfl ⟨by omega, by omega⟩) trivial rfl ?_
         refine .q (op_assign rfl) trivial rfl ?_
         refine .nil ?_
         exact ⟨⟨i + 1, hi, good_step hv (by first | exact .inl (by simpa using hg50) | exact .inr (.inl (by simpa using hg54)) | exact .inr (.inr (by simpa using hc57)))⟩, by show _ - (i + 1) < _ - i; omega, StLe.mk [] rfl rfl ⟨⟨_, rfl, by first | rfl | (simp only [AV.ren]; congr 1; omega), rfl⟩, ⟨_, rfl, by first | rfl | (simp only [AV.ren]; congr 1; omega), rfl⟩, trivial⟩ trivial⟩
       ·skip
        refine .no ⟨_, rfl, rfl⟩ rfl ?_
        refine .no ⟨_, rfl, rfl⟩ rfl ?_
        refine .q (op_pick_false rfl rfl rfl) trivial rfl ?_
        refine .nil ?_
        show Ev _ _ _ _ _
        refine .cond_false rfl rfl ?_
        refine .skip ?_
        show Ev _ _ _ _ _
        refine .region ?_
        refine .q (op_move rfl) trivial rfl ?_
        refine .q (op_addI rfl rfl ⟨by omega, by omega⟩) trivial rfl ?_
        refine .q (op_assign rfl) trivial rfl ?_
        refine .nil ?_
        exact ⟨⟨i + 1, hi, good_step hv (by first | exact .inl (by simpa using hg50) | exact .inr (.inl (by simpa using hg54)) | exact .inr (.inr (by simpa using hc57)))⟩, by show _ - (i + 1) < _ - i; omega, StLe.mk [] rfl rfl ⟨⟨_, rfl, by first | rfl | (simp only [AV.ren]; congr 1; omega), rfl⟩, ⟨_, rfl, by first | rfl | (simp only [AV.ren]; congr 1; omega), rfl⟩, trivial⟩ trivial⟩
      ·skip
       refine .no ⟨_, rfl, rfl⟩ rfl ?_
       refine .no ⟨_, rfl, rfl⟩ rfl ?_
       refine .q (op_pick_false rfl rfl rfl) trivial rfl ?_
       refine .q (op_move rfl) trivial rfl ?_
       refine .no ⟨_, rfl, rfl⟩ rfl ?_
       refine .no ⟨_, rfl, rfl⟩ rfl ?_
       refine .q (op_pick_false rfl rfl rfl) trivial rfl ?_
       refine .nil ?_
       show Ev _ _ _ _ _
       refine .cond_false rfl rfl ?_
       refine .skip ?_
       show Ev _ _ _ _ _
       refine .region ?_
       refine .q (op_move rfl) trivial rfl ?_
       refine .q (op_addI rfl rfl ⟨by omega, by omega⟩) trivial rfl ?_
       refine .q (op_assign rfl) trivial rfl ?_
       refine .nil ?_
       exact ⟨⟨i + 1, hi, good_step hv (by first | exact .inl (by simpa using hg50) | exact .inr (.inl (by simpa using hg54)) | exact .inr (.inr (by simpa using hc57)))⟩, by show _ - (i + 1) < _ - i; omega, StLe.mk [] rfl rfl ⟨⟨_, rfl, by first | rfl | (simp only [AV.ren]; congr 1; omega), rfl⟩, ⟨_, rfl, by first | rfl | (simp only [AV.ren]; congr 1; omega), rfl⟩, trivial⟩ trivial⟩
    ·skip
     refine .no ⟨_, rfl, rfl⟩ rfl ?_
     refine .no ⟨_, rfl, rfl⟩ rfl ?_
     refine .q (op_pick_false rfl rfl rfl) trivial rfl ?_
     refine .q (op_move rfl) trivial rfl ?_
     refine .no ⟨_, rfl, rfl⟩ rfl ?_
     refine .no ⟨_, rfl, rfl⟩ rfl ?_
     refine .no ⟨_, rfl, rfl⟩ rfl ?_
     refine .no ⟨_, rfl, rfl⟩ rfl ?_
     refine .no ⟨_, rfl, rfl⟩ rfl ?_
     refine .q (op_pick_false rfl rfl rfl) trivial rfl ?_
     refine .q (op_assign rfl) trivial rfl ?_
     refine .as (.bool (dashB s i)) (by unfold dashB; rw [show (s.getD i 0 == (45 : UInt8)) = _ from hg37]; first | rfl | (rw [hg41]; rfl)) ?_
     refine .nil ?_
     show Ev _ _ _ _ _
     refine .seq ?_
     refine .region ?_
     refine .q (op_move rfl) trivial rfl ?_
     refine .q (op_notB rfl) trivial rfl ?_
     refine .q (op_move rfl) trivial rfl ?_
     refine .split (fun hg50 => ?_) (fun hg50 => ?_)
     ·skip
      refine .q (op_move rfl) ⟨_, rfl, rfl⟩ rfl ?_
      refine .q (op_notB rfl) ⟨_, rfl, rfl⟩ rfl ?_
      refine .q (op_pick_true rfl rfl rfl) trivial rfl ?_
      refine .q (op_move rfl) trivial rfl ?_
      refine .split (fun hg54 => ?_) (fun hg54 => ?_)
      ·skip
       refine .q (op_move rfl) ⟨_, rfl, rfl⟩ rfl ?_
       refine .q (op_notB rfl) ⟨_, rfl, rfl⟩ rfl ?_
       refine .q (op_pick_true rfl rfl rfl) trivial rfl ?_
       refine .nil ?_
       show Ev _ _ _ _ _
       refine .cond rfl (fun hc57 => ?_) (fun hc57 => ?_)
       ·skip
        refine .seq ?_
        refine .region ?_
        refine .q (op_assign rfl) trivial rfl ?_
        refine .nil ?_
        show Ev _ _ _ _ _
        refine .ret ?_
        show RetOk _ _ _ _ _ _ _
        exact ret1v rfl (.inl rfl) rfl (congrArg AV.bool (by first | exact rv_bad hi hg50 hg54 hc57 | (rw [← rv_end hi0 (of_decide_eq_false hc10) hv, hg61]; rfl))) trivial
       ·skip
        refine .skip ?_
        show Ev _ _ _ _ _
        refine .region ?_
        refine .q (op_move rfl) trivial rfl ?_
        refine .q (op_addI rfl rfl ⟨by omega, by omega⟩) trivial rfl ?_
        refine .q (op_assign rfl) trivial rfl ?_
        refine .nil ?_
        exact ⟨⟨i + 1, hi, good_step hv (by first | exact .inl (by simpa using hg50) | exact .inr (.inl (by simpa using hg54)) | exact .inr (.inr (by simpa using hc57)))⟩, by show _ - (i + 1) < _ - i; omega, StLe.mk [] rfl rfl ⟨⟨_, rfl, by first | rfl | (simp only [AV.ren]; congr 1; omega), rfl⟩, ⟨_, rfl, by first | rfl | (simp only [AV.ren]; congr 1; omega), rfl⟩, trivial⟩ trivial⟩
      ·skip
       refine .no ⟨_, rfl, rfl⟩ rfl ?_
       refine .no ⟨_, rfl, rfl⟩ rfl ?_
       refine .q (op_pick_false rfl rfl rfl) trivial rfl ?_
       refine .nil ?_
       show Ev _ _ _ _ _
       refine .cond_false rfl rfl ?_
       refine .skip ?_
       show Ev _ _ _ _ _
       refine .region ?_
       refine .q (op_move rfl) trivial rfl ?_
       refine .q (op_addI rfl rfl ⟨by omega, by omega⟩) trivial rfl ?_
       refine .q (op_assign rfl) trivial rfl ?_
       refine .nil ?_
       exact ⟨⟨i + 1, hi, good_step hv (by first | exact .inl (by simpa using hg50) | exact .inr (.inl (by simpa using hg54)) | exact .inr (.inr (by simpa using hc57)))⟩, by show _ - (i + 1) < _ - i; omega, StLe.mk [] rfl rfl ⟨⟨_, rfl, by first | rfl | (simp only [AV.ren]; congr 1; omega), rfl⟩, ⟨_, rfl, by first | rfl | (simp only [AV.ren]; congr 1; omega), rfl⟩, trivial⟩ trivial⟩
     ·skip
      refine .no ⟨_, rfl, rfl⟩ rfl ?_
      refine .no ⟨_, rfl, rfl⟩ rfl ?_
      refine .q (op_pick_false rfl rfl rfl) trivial rfl ?_
      refine .q (op_move rfl) trivial rfl ?_
      refine .no ⟨_, rfl, rfl⟩ rfl ?_
      refine .no ⟨_, rfl, rfl⟩ rfl ?_
      refine .q (op_pick_false rfl rfl rfl) trivial rfl ?_
      refine .nil ?_
      show Ev _ _ _ _ _
      refine .cond_false rfl rfl ?_
      refine .skip ?_
      show Ev _ _ _ _ _
      refine .region ?_
      refine .q (op_move rfl) trivial rfl ?_
      refine .q (op_addI rfl rfl ⟨by omega, by omega⟩) trivial rfl ?_
      refine .q (op_assign rfl) trivial rfl ?_
      refine .nil ?_
      exact ⟨⟨i + 1, hi, good_step hv (by first | exact .inl (by simpa using hg50) | exact .inr (.inl (by simpa using hg54)) | exact .inr (.inr (by simpa using hc57)))⟩, by show _ - (i + 1) < _ - i; omega, StLe.mk [] rfl rfl ⟨⟨_, rfl, by first | rfl | (simp only [AV.ren]; congr 1; omega), rfl⟩, ⟨_, rfl, by first | rfl | (simp only [AV.ren]; congr 1; omega), rfl⟩, trivial⟩ trivial⟩
   ·skip
    refine .no ⟨_, rfl, rfl⟩ rfl ?_
    refine .no ⟨_, rfl, rfl⟩ rfl ?_
    refine .no ⟨_, rfl, rfl⟩ rfl ?_
    refine .no ⟨_, rfl, rfl⟩ rfl ?_
    refine .q (op_pick_false rfl rfl rfl) trivial rfl ?_
    refine .q (op_assign rfl) trivial rfl ?_
    refine .as (.bool (digitB (s.getD i 0))) (by unfold digitB; rw [show decide ((48 : UInt8) ≤ s.getD i 0) = _ from hg27]; rfl) ?_
    refine .nil ?_
    show Ev _ _ _ _ _
    refine .seq ?_
    refine .region ?_
    refine .q (op_move rfl) trivial rfl ?_
    refine .q (op_move rfl) trivial rfl ?_
    refine .q (op_index_str Tryd.underlying9 rfl rfl (i := i) rfl (hi)) trivial rfl ?_
    refine .q (op_bin8 rfl rfl rfl) trivial rfl ?_
    refine .q (op_move rfl) trivial rfl ?_
    refine .split (fun hg37 => ?_) (fun hg37 => ?_)
    ·skip
     refine .q (op_move rfl) ⟨_, rfl, rfl⟩ rfl ?_
     refine .q (op_cmpI rfl rfl rfl) ⟨_, rfl, rfl⟩ rfl ?_
     refine .q (op_pick_true rfl rfl rfl) trivial rfl ?_
     refine .q (op_move rfl) trivial rfl ?_
     refine .split (fun hg41 => ?_) (fun hg41 => ?_)
     ·skip
      refine .q (op_move rfl) ⟨_, rfl, rfl⟩ rfl ?_
      refine .q (op_addI rfl rfl ⟨by omega, by omega⟩) ⟨_, rfl, rfl⟩ rfl ?_
      refine .q (op_move rfl) ⟨_, rfl, rfl⟩ rfl ?_
      refine .q (op_len_str Tryd.underlying9 rfl) ⟨_, rfl, rfl⟩ rfl ?_
      refine .q (op_cmpI rfl rfl rfl) ⟨_, rfl, rfl⟩ rfl ?_
      refine .q (op_pick_true rfl rfl rfl) trivial rfl ?_
      refine .q (op_assign rfl) trivial rfl ?_
      refine .as (.bool (dashB s i)) (by unfold dashB; rw [show (s.getD i 0 == (45 : UInt8)) = _ from hg37]; first | rfl | (rw [hg41]; rfl)) ?_
      refine .nil ?_
      show Ev _ _ _ _ _
      refine .seq ?_
      refine .region ?_
      refine .q (op_move rfl) trivial rfl ?_
      refine .q (op_notB rfl) trivial rfl ?_
      refine .q (op_move rfl) trivial rfl ?_
      refine .split (fun hg50 => ?_) (fun hg50 => ?_)
      ·skip
       refine .q (op_move rfl) ⟨_, rfl, rfl⟩ rfl ?_
       refine .q (op_notB rfl) ⟨_, rfl, rfl⟩ rfl ?_
       refine .q (op_pick_true rfl rfl rfl) trivial rfl ?_
       refine .q (op_move rfl) trivial rfl ?_
       refine .split (fun hg54 => ?_) (fun hg54 => ?_)
       ·skip
        refine .q (op_move rfl) ⟨_, rfl, rfl⟩ rfl ?_
        refine .q (op_notB rfl) ⟨_, rfl, rfl⟩ rfl ?_
        refine .q (op_pick_true rfl rfl rfl) trivial rfl ?_
        refine .nil ?_
        show Ev _ _ _ _ _
        refine .cond rfl (fun hc57 => ?_) (fun hc57 => ?_)
        ·skip
         refine .seq ?_
         refine .region ?_
         refine .q (op_assign rfl) trivial rfl ?_
         refine .nil ?_
         show Ev _ _ _ _ _
         refine .ret ?_
         show RetOk _ _ _ _ _ _ _
         exact ret1v rfl (.inl rfl) rfl (congrArg AV.bool (by first | exact rv_bad hi hg50 hg54 hc57 | (rw [← rv_end hi0 (of_decide_eq_false hc10) hv, hg61]; rfl))) trivial
        ·skip
         refine .skip ?_
         show Ev _ _ _ _ _
         refine .region ?_
         refine .q (op_move rfl) trivial rfl ?_
         refine .q (op_addI rfl rfl ⟨by omega, by omega⟩) trivial rfl ?_
         refine .q (op_assign rfl) trivial rfl ?_
         refine .nil ?_
         exact ⟨⟨i + 1, hi, good_step hv (by first | exact .inl (by simpa using hg50) | exact .inr (.inl (by simpa using hg54)) | exact .inr (.inr (by simpa using hc57)))⟩, by show _ - (i + 1) < _ - i; omega, StLe.mk [] rfl rfl ⟨⟨_, rfl, by first | rfl | (simp only [AV.ren]; congr 1; omega), rfl⟩, ⟨_, rfl, by first | rfl | (simp only [AV.ren]; congr 1; omega), rfl⟩, trivial⟩ trivial⟩
       ·skip
        refine .no ⟨_, rfl, rfl⟩ rfl ?_
        refine .no ⟨_, rfl, rfl⟩ rfl ?_
        refine .q (op_pick_false rfl rfl rfl) trivial rfl ?_
        refine .nil ?_
        show Ev _ _ _ _ _
        refine .cond_false rfl rfl ?_
        refine .skip ?_
        show Ev _ _ _ _ _
        refine .region ?_
        refine .q (op_move rfl) trivial rfl ?_
        refine .q (op_addI rfl rfl ⟨by omega, by omega⟩) trivial rfl ?_
        refine .q (op_assign rfl) trivial rfl ?_
        refine .nil ?_
        exact ⟨⟨i + 1, hi, good_step hv (by first | exact .inl (by simpa using hg50) | exact .inr (.inl (by simpa using hg54)) | exact .inr (.inr (by simpa using hc57)))⟩, by show _ - (i + 1) < _ - i; omega, StLe.mk [] rfl rfl ⟨⟨_, rfl, by first | rfl | (simp only [AV.ren]; congr 1; omega), rfl⟩, ⟨_, rfl, by first | rfl | (simp only [AV.ren]; congr 1; omega), rfl⟩, trivial⟩ trivial⟩
      ·skip
       refine .no ⟨_, rfl, rfl⟩ rfl ?_
       refine .no ⟨_, rfl, rfl⟩ rfl ?_
       refine .q (op_pick_false rfl rfl rfl) trivial rfl ?_
       refine .q (op_move rfl) trivial rfl ?_
       refine .no ⟨_, rfl, rfl⟩ rfl ?_
       refine .no ⟨_, rfl, rfl⟩ rfl ?_
       refine .q (op_pick_false rfl rfl rfl) trivial rfl ?_
       refine .nil ?_
       show Ev _ _ _ _ _
       refine .cond_false rfl rfl ?_
       refine .skip ?_
       show Ev _ _ _ _ _
       refine .region ?_
       refine .q (op_move rfl) trivial rfl ?_
       refine .q (op_addI rfl rfl ⟨by omega, by omega⟩) trivial rfl ?_
       refine .q (op_assign rfl) trivial rfl ?_
       refine .nil ?_
       exact ⟨⟨i + 1, hi, good_step hv (by first | exact .inl (by simpa using hg50) | exact .inr (.inl (by simpa using hg54)) | exact .inr (.inr (by simpa using hc57)))⟩, by show _ - (i + 1) < _ - i; omega, StLe.mk [] rfl rfl ⟨⟨_, rfl, by first | rfl | (simp only [AV.ren]; congr 1; omega), rfl⟩, ⟨_, rfl, by first | rfl | (simp only [AV.ren]; congr 1; omega), rfl⟩, trivial⟩ trivial⟩
     ·skip
      refine .no ⟨_, rfl, rfl⟩ rfl ?_
      refine .no ⟨_, rfl, rfl⟩ rfl ?_
      refine .no ⟨_, rfl, rfl⟩ rfl ?_
      refine .no ⟨_, rfl, rfl⟩ rfl ?_
      refine .no ⟨_, rfl, rfl⟩ rfl ?_
      refine .q (op_pick_false rfl rfl rfl) trivial rfl ?_
      refine .q (op_assign rfl) trivial rfl ?_
      refine .as (.bool (dashB s i)) (by unfold dashB; rw [show (s.getD i 0 == (45 : UInt8)) = _ from hg37]; first | rfl | (rw [hg41]; rfl)) ?_
      refine .nil ?_
      show Ev _ _ _ _ _
      refine .seq ?_
      refine .region ?_
      refine .q (op_move rfl) trivial rfl ?_
      refine .q (op_notB rfl) trivial rfl ?_
      refine .q (op_move rfl) trivial rfl ?_
      refine .split (fun hg50 => ?_) (fun hg50 => ?_)
      ·skip
       refine .q (op_move rfl) ⟨_, rfl, rfl⟩ rfl ?_
       refine .q (op_notB rfl) ⟨_, rfl, rfl⟩ rfl ?_
       refine .q (op_pick_true rfl rfl rfl) trivial rfl ?_
       refine .q (op_move rfl) trivial rfl ?_
       refine .split (fun hg54 => ?_) (fun hg54 => ?_)
       ·skip
        refine .q (op_move rfl) ⟨_, rfl, rfl⟩ rfl ?_
        refine .q (op_notB rfl) ⟨_, rfl, rfl⟩ rfl ?_
        refine .q (op_pick_true rfl rfl rfl) trivial rfl ?_
        refine .nil ?_
        show Ev _ _ _ _ _
        refine .cond rfl (fun hc57 => ?_) (fun hc57 => ?_)
        ·skip
         refine .seq ?_
         refine .region ?_
         refine .q (op_assign rfl) trivial rfl ?_
         refine .nil ?_
         show Ev _ _ _ _ _
         refine .ret ?_
         show RetOk _ _ _ _ _ _ _
         exact ret1v rfl (.inl rfl) rfl (congrArg AV.bool (by first | exact rv_bad hi hg50 hg54 hc57 | (rw [← rv_end hi0 (of_decide_eq_false hc10) hv, hg61]; rfl))) trivial
        ·skip
         refine .skip ?_
         show Ev _ _ _ _ _
         refine .region ?_
         refine .q (op_move rfl) trivial rfl ?_
         refine .q (op_addI rfl rfl ⟨by omega, by omega⟩) trivial rfl ?_
         refine .q (op_assign rfl) trivial rfl ?_
         refine .nil ?_
         exact ⟨⟨i + 1, hi, good_step hv (by first | exact .inl (by simpa using hg50) | exact .inr (.inl (by simpa using hg54)) | exact .inr (.inr (by simpa using hc57)))⟩, by show _ - (i + 1) < _ - i; omega, StLe.mk [] rfl rfl ⟨⟨_, rfl, by first | rfl | (simp only [AV.ren]; congr 1; omega), rfl⟩, ⟨_, rfl, by first | rfl | (simp only [AV.ren]; congr 1; omega), rfl⟩, trivial⟩ trivial⟩
       ·skip
        refine .no ⟨_, rfl, rfl⟩ rfl ?_
        refine .no ⟨_, rfl, rfl⟩ rfl ?_
        refine .q (op_pick_false rfl rfl rfl) trivial rfl ?_
        refine .nil ?_
        show Ev _ _ _ _ _
        refine .cond_false rfl rfl ?_
        refine .skip ?_
        show Ev _ _ _ _ _
        refine .region ?_
        refine .q (op_move rfl) trivial rfl ?_
        refine .q (op_addI rfl rfl ⟨by omega, by omega⟩) trivial rfl ?_
        refine .q (op_assign rfl) trivial rfl ?_
        refine .nil ?_
        exact ⟨⟨i + 1, hi, good_step hv (by first | exact .inl (by simpa using hg50) | exact .inr (.inl (by simpa using hg54)) | exact .inr (.inr (by simpa using hc57)))⟩, by show _ - (i + 1) < _ - i; omega, StLe.mk [] rfl rfl ⟨⟨_, rfl, by first | rfl | (simp only [AV.ren]; congr 1; omega), rfl⟩, ⟨_, rfl, by first | rfl | (simp only [AV.ren]; congr 1; omega), rfl⟩, trivial⟩ trivial⟩
      ·skip
       refine .no ⟨_, rfl, rfl⟩ rfl ?_
       refine .no ⟨_, rfl, rfl⟩ rfl ?_
       refine .q (op_pick_false rfl rfl rfl) trivial rfl ?_
       refine .q (op_move rfl) trivial rfl ?_
       refine .no ⟨_, rfl, rfl⟩ rfl ?_
       refine .no ⟨_, rfl, rfl⟩ rfl ?_
       refine .q (op_pick_false rfl rfl rfl) trivial rfl ?_
       refine .nil ?_
       show Ev _ _ _ _ _
       refine .cond_false rfl rfl ?_
       refine .skip ?_
       show Ev _ _ _ _ _
       refine .region ?_
       refine .q (op_move rfl) trivial rfl ?_
       refine .q (op_addI rfl rfl ⟨by omega, by omega⟩) trivial rfl ?_
       refine .q (op_assign rfl) trivial rfl ?_
       refine .nil ?_
       exact ⟨⟨i + 1, hi, good_step hv (by first | exact .inl (by simpa using hg50) | exact .inr (.inl (by simpa using hg54)) | exact .inr (.inr (by simpa using hc57)))⟩, by show _ - (i + 1) < _ - i; omega, StLe.mk [] rfl rfl ⟨⟨_, rfl, by first | rfl | (simp only [AV.ren]; congr 1; omega), rfl⟩, ⟨_, rfl, by first | rfl | (simp only [AV.ren]; congr 1; omega), rfl⟩, trivial⟩ trivial⟩
    ·skip
     refine .no ⟨_, rfl, rfl⟩ rfl ?_
     refine .no ⟨_, rfl, rfl⟩ rfl ?_
     refine .q (op_pick_false rfl rfl rfl) trivial rfl ?_
     refine .q (op_move rfl) trivial rfl ?_
     refine .no ⟨_, rfl, rfl⟩ rfl ?_
     refine .no ⟨_, rfl, rfl⟩ rfl ?_
     refine .no ⟨_, rfl, rfl⟩ rfl ?_
     refine .no ⟨_, rfl, rfl⟩ rfl ?_
     refine .no ⟨_, rfl, rfl⟩ rfl ?_
     refine .q (op_pick_false rfl rfl rfl) trivial rfl ?_
     refine .q (op_assign rfl) trivial rfl ?_
     refine .as (.bool (dashB s i)) (by unfold dashB; rw [show (s.getD i 0 == (45 : UInt8)) = _ from hg37]; first | rfl | (rw [hg41]; rfl)) ?_
     refine .nil ?_
     show Ev _ _ _ _ _
     refine .seq ?_
     refine .region ?_
     refine .q (op_move rfl) trivial rfl ?_
     refine .q (op_notB rfl) trivial rfl ?_
     refine .q (op_move rfl) trivial rfl ?_
     refine .split (fun hg50 => ?_) (fun hg50 => ?_)
     ·skip
      refine .q (op_move rfl) ⟨_, rfl, rfl⟩ rfl ?_
      refine .q (op_notB rfl) ⟨_, rfl, rfl⟩ rfl ?_
      refine .q (op_pick_true rfl rfl rfl) trivial rfl ?_
      refine .q (op_move rfl) trivial rfl ?_
      refine .split (fun hg54 => ?_) (fun hg54 => ?_)
      ·skip
       refine .q (op_move rfl) ⟨_, rfl, rfl⟩ rfl ?_
       refine .q (op_notB rfl) ⟨_, rfl, rfl⟩ rfl ?_
       refine .q (op_pick_true rfl rfl rfl) trivial rfl ?_
       refine .nil ?_
       show Ev _ _ _ _ _
       refine .cond rfl (fun hc57 => ?_) (fun hc57 => ?_)
       ·skip
        refine .seq ?_
        refine .region ?_
        refine .q (op_assign rfl) trivial rfl ?_
        refine .nil ?_
        show Ev _ _ _ _ _
        refine .ret ?_
        show RetOk _ _ _ _ _ _ _
        exact ret1v rfl (.inl rfl) rfl (congrArg AV.bool (by first | exact rv_bad hi hg50 hg54 hc57 | (rw [← rv_end hi0 (of_decide_eq_false hc10) hv, hg61]; rfl))) trivial
       ·skip
        refine .skip ?_
        show Ev _ _ _ _ _
        refine .region ?_
        refine .q (op_move rfl) trivial rfl ?_
        refine .q (op_addI rfl rfl ⟨by omega, by omega⟩) trivial rfl ?_
        refine .q (op_assign rfl) trivial rfl ?_
        refine .nil ?_
        exact ⟨⟨i + 1, hi, good_step hv (by first | exact .inl (by simpa using hg50) | exact .inr (.inl (by simpa using hg54)) | exact .inr (.inr (by simpa using hc57)))⟩, by show _ - (i + 1) < _ - i; omega, StLe.mk [] rfl rfl ⟨⟨_, rfl, by first | rfl | (simp only [AV.ren]; congr 1; omega), rfl⟩, ⟨_, rfl, by first | rfl | (simp only [AV.ren]; congr 1; omega), rfl⟩, trivial⟩ trivial⟩
      ·skip
       refine .no ⟨_, rfl, rfl⟩ rfl ?_
       refine .no ⟨_, rfl, rfl⟩ rfl ?_
       refine .q (op_pick_false rfl rfl rfl) trivial rfl ?_
       refine .nil ?_
       show Ev _ _ _ _ _
       refine .cond_false rfl rfl ?_
       refine .skip ?_
       show Ev _ _ _ _ _
       refine .region ?_
       refine .q (op_move rfl) trivial rfl ?_
       refine .q (op_addI rfl rfl ⟨by omega, by omega⟩) trivial rfl ?_
       refine .q (op_assign rfl) trivial rfl ?_
       refine .nil ?_
       exact ⟨⟨i + 1, hi, good_step hv (by first | exact .inl (by simpa using hg50) | exact .inr (.inl (by simpa using hg54)) | exact .inr (.inr (by simpa using hc57)))⟩, by show _ - (i + 1) < _ - i; omega, StLe.mk [] rfl rfl ⟨⟨_, rfl, by first | rfl | (simp only [AV.ren]; congr 1; omega), rfl⟩, ⟨_, rfl, by first | rfl | (simp only [AV.ren]; congr 1; omega), rfl⟩, trivial⟩ trivial⟩
     ·skip
      refine .no ⟨_, rfl, rfl⟩ rfl ?_
      refine .no ⟨_, rfl, rfl⟩ rfl ?_
      refine .q (op_pick_false rfl rfl rfl) trivial rfl ?_
      refine .q (op_move rfl) trivial rfl ?_
      refine .no ⟨_, rfl, rfl⟩ rfl ?_
      refine .no ⟨_, rfl, rfl⟩ rfl ?_
      refine .q (op_pick_false rfl rfl rfl) trivial rfl ?_
      refine .nil ?_
      show Ev _ _ _ _ _
      refine .cond_false rfl rfl ?_
      refine .skip ?_
      show Ev _ _ _ _ _
      refine .region ?_
      refine .q (op_move rfl) trivial rfl ?_
      refine .q (op_addI rfl rfl ⟨by omega, by omega⟩) trivial rfl ?_
      refine .q (op_assign rfl) trivial rfl ?_
      refine .nil ?_
      exact ⟨⟨i + 1, hi, good_step hv (by first | exact .inl (by simpa using hg50) | exact .inr (.inl (by simpa using hg54)) | exact .inr (.inr (by simpa using hc57)))⟩, by show _ - (i + 1) < _ - i; omega, StLe.mk [] rfl rfl ⟨⟨_, rfl, by first | rfl | (simp only [AV.ren]; congr 1; omega), rfl⟩, ⟨_, rfl, by first | rfl | (simp only [AV.ren]; congr 1; omega), rfl⟩, trivial⟩ trivial⟩
 ·skip
  refine .exit ?_
  show Ev _ _ _ _ _
  refine .seq ?_
  refine .region ?_
  refine .q (op_move rfl) trivial rfl ?_
  refine .q (op_len_str Tryd.underlying9 rfl) trivial rfl ?_
  refine .q (op_cmpI rfl rfl rfl) trivial rfl ?_
  refine .q (op_move rfl) trivial rfl ?_
  refine .split (fun hg61 => ?_) (fun hg61 => ?_)
  ·skip
   refine .q (op_move rfl) ⟨_, rfl, rfl⟩ rfl ?_
   refine .q (op_len_str Tryd.underlying9 rfl) ⟨_, rfl, rfl⟩ rfl ?_
   refine .q (op_cmpI rfl rfl rfl) ⟨_, rfl, rfl⟩ rfl ?_
   refine .q (op_pick_true rfl rfl rfl) trivial rfl ?_
   refine .q (op_assign rfl) trivial rfl ?_
   refine .nil ?_
   show Ev _ _ _ _ _
   refine .ret ?_
   show RetOk _ _ _ _ _ _ _
   exact ret1v rfl (.inl rfl) rfl (congrArg AV.bool (by first | exact rv_bad hi hg50 hg54 hc57 | (rw [← rv_end hi0 (of_decide_eq_false hc10) hv, hg61]; rfl))) trivial
  ·skip
   refine .no ⟨_, rfl, rfl⟩ rfl ?_
   refine .no ⟨_, rfl, rfl⟩ rfl ?_
   refine .no ⟨_, rfl, rfl⟩ rfl ?_
   refine .q (op_pick_false rfl rfl rfl) trivial rfl ?_
   refine .q (op_assign rfl) trivial rfl ?_
   refine .nil ?_
   show Ev _ _ _ _ _
   refine .ret ?_
   show RetOk _ _ _ _ _ _ _
   exact ret1v rfl (.inl rfl) rfl (congrArg AV.bool (by first | exact rv_bad hi hg50 hg54 hc57 | (rw [← rv_end hi0 (of_decide_eq_false hc10) hv, hg61]; rfl))) trivial
end Go.Proofs.YticickigndgpcaaDoor
