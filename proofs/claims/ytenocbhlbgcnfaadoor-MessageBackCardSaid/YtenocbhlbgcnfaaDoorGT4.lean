/-
  Texts of this claim.
-/
import Derived.Test.YtenocbhlbgcnfaaDoorGTS
import Derived.Test.YtenocbhlbgcnfaaDoorGTY
import Derived.Test.YtenocbhlbgcnfaaDoorGT3
namespace Go.Proofs.YtenocbhlbgcnfaaDoor
open Go.RowKit
section
variable {P : Program} {T : Nat → Option AV} {H : Hp} {nm : Nat} {wr : Bool} {d : Option Tmp} {ty t e : TypeId} {ps : String} {af : Array Edge} {gd : Option (Nat × Bool)} {x : Operand} {n z q : Nat} {cs : List AV}
theorem op_slice_fsl0 {lo hi : Option Operand} (ht : P.underlying t = some (.slice e)) (hz : (P.info? e).map (·.size) = some z) (hx : aev T x = some (.fsl cs n z)) (hl : bnd T 0 lo 0) (hh : bnd T n hi q) (h2 : q ≤ n) :
    OpSem P T H ⟨d, .slice t x lo hi none, ty, ps, af, gd⟩ nm wr (.fsl (cs.take (q * z)) q z) [] := by
  rcases Nat.eq_zero_or_pos n with h0 | h0
  · subst h0
    obtain rfl : q = 0 := by omega
    exact .quiet fun E a w hop => by
      rcases (hop x (by simp [Op.operands]) _ hx).fsl_inv with ⟨L, g, lc, o, c, s, g1, g2, g3, g4, g5, g6, g7, g8, g9⟩ | ⟨ad, g1, g2, g3⟩
      · have hb := run_sliceBounds_ok (P := P) (sl := true) (cap := c) (fun q hq u hu => hop q (mem_slice q hq) u hu) hl hh (Nat.le_refl _) (by omega) w
        have hcs : cs = [] := List.eq_nil_of_length_eq_zero (by omega)
        subst hcs
        by_cases hc : c = 0
        · subst hc
          refine ⟨.slice (some ⟨lc, o, none⟩) 0 0, ?_, by rw [Nat.zero_mul, List.take_zero]; exact .fsl0 _ _⟩
          simp [execOp, g9, Instr.sliceAt, Instr.slice, run_underlying ht, hb, run_sizeOf_is hz]
        · refine ⟨.slice (some ⟨lc, o, none⟩) 0 c, ?_, by rw [Nat.zero_mul, List.take_zero]; exact .fsl _ _ _ L g lc o c s g1 (by simp) (fun x hx => by simp at hx) (fun k hk => by simp at hk) (fun k v hk => by simp at hk) (Nat.zero_le _) g7 g8⟩
          have h0c : ¬ (0 : Nat) = c := fun h => hc h.symm
          simp [execOp, g9, Instr.sliceAt, Instr.slice, run_underlying ht, hb, run_sizeOf_is hz, hc, add_at]
      · have hb := run_sliceBounds_ok (P := P) (sl := true) (cap := 0) (fun q hq u hu => hop q (mem_slice q hq) u hu) hl hh (Nat.le_refl _) (Nat.le_refl _) w
        subst g1
        refine ⟨.slice ad 0 0, ?_, by rw [Nat.zero_mul, List.take_zero]; exact .fsl0 _ _⟩
        cases ad with
        | none => simp [execOp, g3, Instr.sliceAt, Instr.slice, run_underlying ht, hb, run_sizeOf_is hz]
        | some ad => simp [execOp, g3, Instr.sliceAt, Instr.slice, run_underlying ht, hb, run_sizeOf_is hz]
  · have h := op_slice_fsl (H := H) (nm := nm) (wr := wr) (d := d) (ty := ty) (ps := ps) (af := af) (gd := gd) ht hz hx hl hh (Nat.zero_le _) h2 h0
    rw [Nat.zero_mul, List.drop_zero, Nat.sub_zero] at h
    exact h
end
end Go.Proofs.YtenocbhlbgcnfaaDoor
namespace Go.Proofs.YtenocbhlbgcnfaaDoor
open Go.RowKit
/-- A message whose lists lie still. -/
def msgF (k : Int) (us : List UInt32) (ss : List (List UInt8)) (ns : List (List (List UInt8))) (bs : List Bool) : AV := .agg [.i64 k, .fsl (us.map .u32) us.length 1, .dsl ss, .fsl (ns.map .dsl) ns.length 1, .fsl (bs.map .bool) bs.length 1]
def fwS (ss : List (List UInt8)) : List (List UInt8) := (ss.take 9).map (List.take 100)
def fwL (l : List (List UInt8)) : List (List UInt8) := (l.take 6).map (List.take 70)
def fwN (ns : List (List (List UInt8))) : List (List (List UInt8)) := (ns.take 14).map fwL
theorem take9 {α : Type} (f : α → AV) (l : List α) : (AV.fsl ((l.map f).take (min l.length 9 * 1)) (min l.length 9) 1) = .fsl ((l.take 9).map f) (l.take 9).length 1 := by
  rw [Nat.mul_one, ← List.map_take, List.length_take, Nat.min_comm 9]
  congr 2
  rcases Nat.le_total l.length 9 with h | h
  · rw [Nat.min_eq_left h, List.take_of_length_le (Nat.le_refl _), List.take_of_length_le h]
  · rw [Nat.min_eq_right h]
theorem map_take_succ {α β : Type} {f : α → β} {l : List α} {i : Nat} {d : α} (h : i < l.length) : (l.take i).map f ++ [f (l.getD i d)] = (l.take (i + 1)).map f := by
  rw [List.take_add_one, List.getElem?_eq_getElem h, Option.toList_some, List.map_append, List.getD_eq_getElem?_getD, List.getElem?_eq_getElem h]
  rfl
theorem take_end {α : Type} {l : List α} {i n : Nat} (h1 : i ≤ l.length) (h2 : i ≤ n) (h : ¬ (i < l.length ∧ i < n)) : l.take i = l.take n := by
  rcases Nat.lt_or_ge i n with h3 | h3
  · have : i = l.length := by omega
    rw [this, List.take_of_length_le (Nat.le_refl _), List.take_of_length_le (by omega)]
  · have : i = n := by omega
    rw [this]
theorem get_dsl {ns : List (List (List UInt8))} {j : Nat} (h : j < ns.length) : ((ns.map AV.dsl).drop (j * 1))[0]? = some (.dsl (ns.getD j [])) := by
  rw [Nat.mul_one, List.getElem?_drop, Nat.add_zero, List.getElem?_map, List.getElem?_eq_getElem h]
  simp [List.getD_eq_getElem?_getD, h]
theorem get_str {ss : List (List UInt8)} {j : Nat} (h : j < ss.length) : (ss.drop j)[0]? = some (ss.getD j []) := by
  rw [List.getElem?_drop, Nat.add_zero, List.getElem?_eq_getElem h]
  simp [List.getD_eq_getElem?_getD, h]
/-- A list in a slot, nil or one's own, is made still. -/
theorem Ev.freezeS {P : Program} {nt : Nat} {cd : Code} {post : Exit → St → Prop} {T : List (Nat × AV)} {H : List (Nat × Option ABlk)} {nx t b n e : Nat} {L : List (List UInt8)} (hn : 1000 ≤ nx) (ht : lk T t = some (slO b n 1)) (hb : hget H b = opt (.aggS L) n e) (hl : L.length = n)
    (h : Ev P nt cd ⟨(t, .dsl L) :: T, (b, none) :: H, nx⟩ post) : Ev P nt cd ⟨T, H, nx⟩ post := by
  cases n with
  | zero =>
    have hL : L = [] := List.eq_nil_of_length_eq_zero hl
    subst hL
    refine Ev.weak (st2 := ⟨(t, .dsl []) :: T, (b, none) :: H, nx⟩) ⟨hn, fun E S n0 a w hR => ⟨E, Emb.kp_refl _ _, fun t' u hu => ?_, hR.nt, hR.df, hR.rh.less (fun q k hk => ?_), hR.fr, hR.gl, hR.hS, hR.h0⟩⟩ h
    · simp only [lk] at hu
      split at hu
      · rename_i e1
        injection hu with hu; subst hu
        have e2 := Nat.eq_of_beq_eq_true e1
        subst e2
        exact nil_dsl _ _ (hR.rt t _ ht)
      · exact hR.rt t' u hu
    · have e1 := upd_one b none (hget H) q
      rw [upd_hget] at e1
      have hk2 : (if q = b then none else hget H q) = some k := e1.symm.trans hk
      split at hk2
      · cases hk2
      · exact hk2
  | succ q =>
    have h9 := Ev.freeze (P := P) (nt := nt) (cd := cd) (post := post) (T := T) (H := H) (nx := nx) (t := t) (b := b) (o := 0) (n := q + 1) (e := e) (L := L) hn ht hb (by omega)
    rw [List.drop_zero, List.take_of_length_le (by omega)] at h9
    exact h9 h
theorem Ev.freezeS2 {P : Program} {nt : Nat} {cd : Code} {post : Exit → St → Prop} {T : List (Nat × AV)} {H : List (Nat × Option ABlk)} {nx t b n e : Nat} {L : List (List UInt8)} (L2 : List (List UInt8)) (eL : L = L2) (hn : 1000 ≤ nx) (ht : lk T t = some (slO b n 1)) (hb : hget H b = opt (.aggS L) n e) (hl : L.length = n)
    (h : Ev P nt cd ⟨(t, .dsl L2) :: T, (b, none) :: H, nx⟩ post) : Ev P nt cd ⟨T, H, nx⟩ post := by
  subst eL
  exact Ev.freezeS hn ht hb hl h
theorem slO_nm' {L : List (Nat × Nat)} {b : Nat} (n : Nat) (h : nmOk L [b] = true) : nmOk L (slO b n 1).names = true := slO_nm n 1 h
theorem out_ren {f : Nat → Nat} (k : Int) (us : List UInt32) (bs : List Bool) {a b a2 b2 : Nat} (na nb : Nat) (h1 : f a = a2) (h2 : f b = b2) : (AV.agg [.i64 k, .fsl ((us.take 9).map .u32) (us.take 9).length 1, slO a na 1, slO b nb 1, .fsl ((bs.take 9).map .bool) (bs.take 9).length 1]).ren f = AV.agg [.i64 k, .fsl ((us.take 9).map .u32) (us.take 9).length 1, slO a2 na 1, slO b2 nb 1, .fsl ((bs.take 9).map .bool) (bs.take 9).length 1] := by
  show AV.agg [_, _, (slO a na 1).ren f, (slO b nb 1).ren f, _] = _
  rw [slO_ren, slO_ren, h1, h2]; rfl
theorem nmOk_app' {L : List (Nat × Nat)} : ∀ (a b : List Nat), nmOk L (a ++ b) = (nmOk L a && nmOk L b)
  | [], b => by simp [nmOk]
  | x :: a, b => by show (_ && nmOk L (a ++ b)) = (_ && _ && _); rw [nmOk_app' a b, Bool.and_assoc]
theorem out_nm {L : List (Nat × Nat)} (k : Int) (us : List UInt32) (bs : List Bool) {a b : Nat} (na nb : Nat) (h1 : nmOk L [a] = true) (h2 : nmOk L [b] = true) : nmOk L (AV.agg [.i64 k, .fsl ((us.take 9).map .u32) (us.take 9).length 1, slO a na 1, slO b nb 1, .fsl ((bs.take 9).map .bool) (bs.take 9).length 1]).names = true := by
  have h3 := slO_nm' na h1
  have h4 := slO_nm' nb h2
  show nmOk L ((slO a na 1).names ++ ((slO b nb 1).names ++ [])) = true
  rw [List.append_nil, nmOk_app', h3, h4]; rfl
set_option maxHeartbeats 4000000 in
set_option maxRecDepth 100000 in
theorem few_ev (k : Int) (us : List UInt32) (ss : List (List UInt8)) (ns : List (List (List UInt8))) (bs : List Bool) (_hul : us.length ≤ maxLen) (_hsl : ss.length ≤ maxLen) (_hnl : ns.length ≤ maxLen) (_hbl : bs.length ≤ maxLen) (hsj : ∀ j, (ss.getD j []).length ≤ maxLen) (_hnn : ∀ j, (ns.getD j []).length ≤ maxLen) (hnj : ∀ i j, ((ns.getD i []).getD j []).length ≤ maxLen) : Meets Tryd.prog 5 [msgF k us ss ns bs] [] (msgF k (us.take 9) (fwS ss) (fwN ns) (bs.take 9)) [] := by
 have hmx : maxLen ≤ 9223372036854775807 := by unfold maxLen; omega
 refine meets_of_ev (nt := 91) Tryd.func5 rfl rfl (Nat.le_of_ble_eq_true rfl) ?_
 refine .seq ?_
 refine .region ?_
 refine .a (op_boxRow rfl rfl) trivial rfl ?_
 skip
 refine .a (op_allocRow zero27 rel_zero27 rfl) trivial rfl ?_
 refine .nil ?_
 show Ev _ _ _ _ _
 refine .seq ?_
 refine .drawn [[], [0], [], [2], [], [4], [4, 5], [4, 5, 6], [2, 3, 4, 5, 6, 7], [], [9], [], [11], [11, 12], [11, 12, 13], [9, 10, 11, 12, 13, 14], [0, 1, 2, 3, 4, 5, 6, 7, 8, 9, 10, 11, 12, 13, 14, 15], [], [0, 1, 2, 3, 4, 5, 6, 7, 8, 9, 10, 11, 12, 13, 14, 15, 16, 17]] [1, 3, 5, 10, 12, 17, 18] [18] (by kernel_rfl) (by kernel_rfl) rfl ?_
 show DK _ [0, 1, 2, 3, 4, 5, 6, 7, 8, 9, 10, 11, 12, 13, 14, 15, 16, 17, 18] _ _ _
 refine .q rfl (op_fieldAddr (m := 0) Tryd.underlying27 rfl (by kernel_rfl) rfl) trivial ?_
 refine .as (.ptr 1000 0) rfl ?_
 refine .q rfl (op_load Tryd.underlying3 rfl rfl rfl rfl (by show 0 < 5; decide)) trivial ?_
 refine .q rfl (op_fieldAddr (m := 0) Tryd.underlying27 rfl (by kernel_rfl) rfl) trivial ?_
 refine .as (.ptr 1000 1) rfl ?_
 refine .q rfl (op_load Tryd.underlying22 rfl rfl rfl rfl (by show 1 < 5; decide)) trivial ?_
 refine .q rfl (op_fieldAddr (m := 0) Tryd.underlying27 rfl (by kernel_rfl) rfl) trivial ?_
 refine .as (.ptr 1000 1) rfl ?_
 refine .q rfl (op_load Tryd.underlying22 rfl rfl rfl rfl (by show 1 < 5; decide)) trivial ?_
 refine .q rfl (op_len_fsl Tryd.underlying22 rfl) trivial ?_
 refine .q rfl (op_minI rfl rfl) trivial ?_
 refine .as (.i64 ((min us.length 9 : Nat) : Int)) (congrArg AV.i64 (by omega)) ?_
 refine .q rfl (op_slice_fsl0 (z := 1) (q := min us.length 9) Tryd.underlying22 inf42.sz rfl rfl (bnd_some rfl rfl) (Nat.min_le_left _ _)) trivial ?_
 refine .as (.fsl ((us.take 9).map .u32) (us.take 9).length 1) (take9 AV.u32 us) ?_
 refine .q rfl (op_fieldAddr (m := 0) Tryd.underlying27 rfl (by kernel_rfl) rfl) trivial ?_
 refine .as (.ptr 1000 4) rfl ?_
 refine .q rfl (op_load Tryd.underlying25 rfl rfl rfl rfl (by show 4 < 5; decide)) trivial ?_
 refine .q rfl (op_fieldAddr (m := 0) Tryd.underlying27 rfl (by kernel_rfl) rfl) trivial ?_
 refine .as (.ptr 1000 4) rfl ?_
 refine .q rfl (op_load Tryd.underlying25 rfl rfl rfl rfl (by show 4 < 5; decide)) trivial ?_
 refine .q rfl (op_len_fsl Tryd.underlying25 rfl) trivial ?_
 refine .q rfl (op_minI rfl rfl) trivial ?_
 refine .as (.i64 ((min bs.length 9 : Nat) : Int)) (congrArg AV.i64 (by omega)) ?_
 refine .q rfl (op_slice_fsl0 (z := 1) (q := min bs.length 9) Tryd.underlying25 inf4.sz rfl rfl (bnd_some rfl rfl) (Nat.min_le_left _ _)) trivial ?_
 refine .as (.fsl ((bs.take 9).map .bool) (bs.take 9).length 1) (take9 AV.bool bs) ?_
 refine .q rfl (op_buildS (r := .agg [.i64 k, .fsl ((us.take 9).map .u32) (us.take 9).length 1, .nilsl, .nilsl, .fsl ((bs.take 9).map .bool) (bs.take 9).length 1]) Tryd.underlying27 rfl zero27 rel_zero27 rfl rfl rfl rfl) trivial ?_
 refine .a rfl (op_allocRow zero27 rel_zero27 rfl) trivial rfl rfl ?_
 refine .w rfl (op_storeRow (by kernel_rfl) rfl rfl rfl rfl rfl (rfl) (rfl)) trivial rfl rfl ?_
 refine .nil ?_
 show Ev _ _ _ _ _
 refine .seq ?_
 refine .seq ?_
 refine .region ?_
 refine .q (op_assign rfl) trivial rfl ?_
 refine .nil ?_
 show Ev _ _ _ _ _
 refine .block ?_
 refine Ev.loop (ι := { i : Nat // i ≤ ss.length ∧ i ≤ 9 }) (fun q => ⟨[(1, .ptr 1000 0), (2, .ptr 1008 0), (3, .ptr 1016 0), (4, .i64 ((q.1 : Nat) : Int))], [(1000, some ⟨msgF k us ss ns bs, 27, true⟩), (1008, some ⟨.agg [.i64 0, .nilsl, .nilsl, .nilsl, .nilsl], 27, true⟩), (1016, some ⟨.agg [.i64 k, .fsl ((us.take 9).map .u32) (us.take 9).length 1, slO 1024 q.1 1, slO 1032 0 1, .fsl ((bs.take 9).map .bool) (bs.take 9).length 1], 27, true⟩), (1024, opt (.aggS ((ss.take q.1).map (List.take 100))) q.1 9)], 1048⟩) (fun q => 9 - q.1) ⟨0, Nat.zero_le _, Nat.zero_le _⟩ (StLe.mk [(1000, 1000), (1008, 1008), (1016, 1152)] rfl rfl ⟨⟨_, rfl, by first | rfl | (simp only [AV.ren]; congr 1; omega) | (simp only [slO_ren]; rfl), rfl⟩, ⟨_, rfl, by first | rfl | (simp only [AV.ren]; congr 1; omega) | (simp only [slO_ren]; rfl), rfl⟩, ⟨_, rfl, by first | rfl | (simp only [AV.ren]; congr 1; omega) | (simp only [slO_ren]; rfl), rfl⟩, ⟨_, rfl, by first | rfl | (simp only [AV.ren]; congr 1; omega) | (simp only [slO_ren]; rfl), rfl⟩, trivial⟩ (⟨⟨_, _, rfl, rfl, rfl, rfl, id, rfl⟩, ⟨⟨_, _, rfl, rfl, rfl, rfl, id, rfl⟩, ⟨⟨_, _, rfl, rfl, rfl, rfl, id, rfl⟩, trivial⟩⟩⟩)) ?_
 rintro ⟨i, hi, hi9⟩
 dsimp only
 refine .seq ?_
 refine .seq ?_
 refine .region ?_
 refine .q (op_move rfl) trivial rfl ?_
 refine .q (op_fieldAddr (m := 0) Tryd.underlying27 rfl (by kernel_rfl) rfl) trivial rfl ?_
 refine .as (.ptr 1000 2) rfl ?_
 refine .q (op_load Tryd.underlying23 rfl rfl rfl rfl (by show 2 < 5; decide)) trivial rfl ?_
 refine .q (op_len_dsl Tryd.underlying23 rfl) trivial rfl ?_
 refine .q (op_cmpI rfl rfl rfl) trivial rfl ?_
 refine .q (op_move rfl) trivial rfl ?_
 refine .split (fun hg30 => ?_) (fun hg30 => ?_)
 ·simp only [decide_eq_true_eq] at hg30
  refine .q (op_move rfl) ⟨_, rfl, rfl⟩ rfl ?_
  refine .q (op_cmpI rfl rfl rfl) ⟨_, rfl, rfl⟩ rfl ?_
  refine .q (op_pick_true rfl rfl rfl) trivial rfl ?_
  refine .nil ?_
  show Ev _ _ _ _ _
  refine .cond rfl (fun hc33 => ?_) (fun hc33 => ?_)
  ·simp only [decide_eq_true_eq] at hc33
   refine .skip ?_
   show Ev _ _ _ _ _
   refine .seq ?_
   refine .block ?_
   refine .drawnF [[], [0], [], [2], [], [2, 3, 4], [2, 3, 4, 5], [2, 3, 4, 5, 6], [2, 3, 4, 5, 6, 7], [0, 1, 2, 3, 4, 5, 6, 7, 8], [0, 1, 2, 3, 4, 5, 6, 7, 8, 9], [0, 1, 2, 3, 4, 5, 6, 7, 8, 9, 10]] [1, 3, 6, 7, 8, 9, 11] [] [(1, ([1016], [])), (3, ([1000], [])), (6, ([], [])), (7, ([], [])), (8, ([], [])), (9, ([1112], [1024])), (11, ([], [1016]))] (by kernel_rfl) (by kernel_rfl) rfl ?_
   show DK _ [0, 1, 2, 3, 4, 5, 6, 7, 8, 9, 10, 11] _ _ _
   refine .q rfl (op_fieldAddr (m := 0) Tryd.underlying27 rfl (by kernel_rfl) rfl) trivial ?_
   refine .as (.ptr 1016 2) rfl ?_
   refine .q rfl (op_load Tryd.underlying23 rfl rfl rfl rfl (by show 2 < 5; decide)) trivial ?_
   refine .q rfl (op_fieldAddr (m := 0) Tryd.underlying27 rfl (by kernel_rfl) rfl) trivial ?_
   refine .as (.ptr 1000 2) rfl ?_
   refine .q rfl (op_load Tryd.underlying23 rfl rfl rfl rfl (by show 2 < 5; decide)) trivial ?_
   refine .q rfl (op_move rfl) trivial ?_
   refine .q rfl (op_indexAddr_dsl Tryd.underlying23 inf9.sz rfl rfl rfl (show i < ss.length by omega)) trivial ?_
   refine .q rfl (op_load_dptr Tryd.underlying9 rfl rfl (get_str (show i < ss.length by omega))) trivial ?_
   refine .q rfl (op_call (U := []) [] [] (cut_ev (ss.getD i []) 100 (hsj i)) Tryd.func14 (by kernel_rfl) rfl rfl rfl (⟨⟨_, rfl, rfl, rfl⟩, ⟨_, rfl, rfl, rfl⟩, trivial⟩) (trivial) (trivial) (trivial) rfl) trivial ?_
   refine .a rfl (ap_build (us := [_]) (c := .aggS [_]) Tryd.underlying23 inf9 rfl (by decide) (by decide) ⟨rfl, rfl, rfl, trivial⟩ rfl) trivial rfl rfl ?_
   refine .a rfl (ap_append_slO (c := .aggS ((ss.take i).map (List.take 100))) (c' := .aggS (((ss.take i).map (List.take 100)) ++ [(List.take 100 (ss.getD i []))])) Tryd.underlying23 Tryd.underlying23 (.inr ⟨_, rfl⟩) inf9 rfl (fun _ h => h) (by show (List.map _ _).length = i * 1; simp only [List.length_map, List.length_take, Nat.mul_one]; omega) (srcs_sl (b := 1112) (o := 0) (m := 1) (z := 1) (k := ⟨.aggS [(List.take 100 (ss.getD i []))], 9, true⟩) rfl rfl (Nat.le_refl 1) rfl) (by show (((ss.take i).map (List.take 100)) ++ [(List.take 100 (ss.getD i []))]).map _ = _; rw [List.map_append]; rfl) (by decide) (Nat.le_of_ble_eq_true rfl) (by omega)) trivial rfl rfl ?_
   refine .q rfl (op_fieldAddr (m := 0) Tryd.underlying27 rfl (by kernel_rfl) rfl) trivial ?_
   refine .as (.ptr 1016 2) rfl ?_
   refine .w rfl (op_store (by kernel_rfl) rfl rfl rfl rfl rfl (by show 2 < 5; decide)) trivial rfl rfl ?_
   refine .nil ?_
   show Ev _ _ _ _ _
   refine .region ?_
   refine .q (op_move rfl) trivial rfl ?_
   refine .q (op_addI rfl rfl ⟨by omega, by omega⟩) trivial rfl ?_
   refine .q (op_assign rfl) trivial rfl ?_
   refine .nil ?_
   exact ⟨⟨i + 1, by omega, by omega⟩, by show 9 - (i + 1) < 9 - i; omega, StLe.mk [(1000, 1000), (1008, 1008), (1016, 1016), (1024, 1120), (1032, 1032)] rfl rfl ⟨⟨_, rfl, by first | rfl | (simp only [AV.ren]; congr 1; omega) | (simp only [slO_ren]; rfl), rfl⟩, ⟨_, rfl, by first | rfl | (simp only [AV.ren]; congr 1; omega) | (simp only [slO_ren]; rfl), rfl⟩, ⟨_, rfl, by first | rfl | (simp only [AV.ren]; congr 1; omega) | (simp only [slO_ren]; rfl), rfl⟩, ⟨_, rfl, by first | rfl | (simp only [AV.ren]; congr 1; omega) | (simp only [slO_ren]; rfl), rfl⟩, trivial⟩ (⟨⟨_, _, rfl, rfl, rfl, rfl, id, rfl⟩, ⟨⟨_, _, rfl, rfl, rfl, rfl, id, rfl⟩, ⟨⟨_, _, rfl, rfl, out_ren (a := 1120) (b := 1032) k us bs (i + 1) 0 rfl rfl, rfl, id, out_nm (a := 1120) (b := 1032) k us bs (i + 1) 0 rfl rfl⟩, ⟨⟨_, _, rfl, rfl, congrArg AV.aggS (map_take_succ (f := List.take 100) (d := []) (show i < ss.length by omega)), rfl, id, rfl⟩, trivial⟩⟩⟩⟩)⟩
  ·simp only [decide_eq_false_iff_not] at hc33
   refine .exit ?_
   show Ev _ _ _ _ _
   refine .seq ?_
   refine .seq ?_
   refine .region ?_
   refine .q (op_assign rfl) trivial rfl ?_
   refine .nil ?_
   show Ev _ _ _ _ _
   refine .block ?_
   have eS := take_end hi hi9 (by omega)
   refine Ev.loop (ι := { j : Nat // j ≤ ns.length ∧ j ≤ 14 }) (fun q => ⟨[(1, .ptr 1000 0), (2, .ptr 1008 0), (3, .ptr 1016 0), (5, .i64 ((q.1 : Nat) : Int))], [(1000, some ⟨msgF k us ss ns bs, 27, true⟩), (1008, some ⟨.agg [.i64 0, .nilsl, .nilsl, .nilsl, .nilsl], 27, true⟩), (1016, some ⟨.agg [.i64 k, .fsl ((us.take 9).map .u32) (us.take 9).length 1, slO 1024 i 1, slO 1032 q.1 1, .fsl ((bs.take 9).map .bool) (bs.take 9).length 1], 27, true⟩), (1024, opt (.aggS ((ss.take i).map (List.take 100))) i 9), (1032, opt (.aggD ((ns.take q.1).map fwL)) q.1 23)], 1048⟩) (fun q => 14 - q.1) ⟨0, Nat.zero_le _, Nat.zero_le _⟩ (StLe.mk [(1000, 1000), (1008, 1008), (1016, 1016), (1024, 1024), (1032, 1032)] rfl rfl ⟨⟨_, rfl, by first | rfl | (simp only [AV.ren]; congr 1; omega) | (simp only [slO_ren]; rfl), rfl⟩, ⟨_, rfl, by first | rfl | (simp only [AV.ren]; congr 1; omega) | (simp only [slO_ren]; rfl), rfl⟩, ⟨_, rfl, by first | rfl | (simp only [AV.ren]; congr 1; omega) | (simp only [slO_ren]; rfl), rfl⟩, ⟨_, rfl, by first | rfl | (simp only [AV.ren]; congr 1; omega) | (simp only [slO_ren]; rfl), rfl⟩, trivial⟩ (⟨⟨_, _, rfl, rfl, rfl, rfl, id, rfl⟩, ⟨⟨_, _, rfl, rfl, rfl, rfl, id, rfl⟩, ⟨⟨_, _, rfl, rfl, out_ren (a := 1024) (b := 1032) k us bs i 0 rfl rfl, rfl, id, out_nm (a := 1024) (b := 1032) k us bs i 0 rfl rfl⟩, HLe.oc (opt_le rfl (fun _ h => h) rfl rfl) (trivial)⟩⟩⟩)) ?_
   rintro ⟨j, hj, hj14⟩
   dsimp only
   refine .seq ?_
   refine .seq ?_
   refine .region ?_
   refine .q (op_move rfl) trivial rfl ?_
   refine .q (op_fieldAddr (m := 0) Tryd.underlying27 rfl (by kernel_rfl) rfl) trivial rfl ?_
   refine .as (.ptr 1000 3) rfl ?_
   refine .q (op_load Tryd.underlying24 rfl rfl rfl rfl (by show 3 < 5; decide)) trivial rfl ?_
   refine .q (op_len_fsl Tryd.underlying24 rfl) trivial rfl ?_
   refine .q (op_cmpI rfl rfl rfl) trivial rfl ?_
   refine .q (op_move rfl) trivial rfl ?_
   refine .split (fun hg52 => ?_) (fun hg52 => ?_)
   ·simp only [decide_eq_true_eq] at hg52
    refine .q (op_move rfl) ⟨_, rfl, rfl⟩ rfl ?_
    refine .q (op_cmpI rfl rfl rfl) ⟨_, rfl, rfl⟩ rfl ?_
    refine .q (op_pick_true rfl rfl rfl) trivial rfl ?_
    refine .nil ?_
    show Ev _ _ _ _ _
    refine .cond rfl (fun hc55 => ?_) (fun hc55 => ?_)
    ·simp only [decide_eq_true_eq] at hc55
     refine .skip ?_
     show Ev _ _ _ _ _
     refine .seq ?_
     refine .block ?_
     refine .seq ?_
     refine .region ?_
     refine .q (op_assign rfl) trivial rfl ?_
     refine .nil ?_
     show Ev _ _ _ _ _
     refine .seq ?_
     refine .seq ?_
     refine .region ?_
     refine .q (op_assign rfl) trivial rfl ?_
     refine .nil ?_
     show Ev _ _ _ _ _
     refine .block ?_
     refine Ev.loop (ι := { m : Nat // m ≤ (ns.getD j []).length ∧ m ≤ 6 }) (fun q => ⟨[(1, .ptr 1000 0), (2, .ptr 1008 0), (3, .ptr 1016 0), (5, .i64 ((j : Nat) : Int)), (6, slO 1040 q.1 1), (7, .i64 ((q.1 : Nat) : Int))], [(1000, some ⟨msgF k us ss ns bs, 27, true⟩), (1008, some ⟨.agg [.i64 0, .nilsl, .nilsl, .nilsl, .nilsl], 27, true⟩), (1016, some ⟨.agg [.i64 k, .fsl ((us.take 9).map .u32) (us.take 9).length 1, slO 1024 i 1, slO 1032 j 1, .fsl ((bs.take 9).map .bool) (bs.take 9).length 1], 27, true⟩), (1024, opt (.aggS ((ss.take i).map (List.take 100))) i 9), (1032, opt (.aggD ((ns.take j).map fwL)) j 23), (1040, opt (.aggS (((ns.getD j []).take q.1).map (List.take 70))) q.1 9)], 1048⟩) (fun q => 6 - q.1) ⟨0, Nat.zero_le _, Nat.zero_le _⟩ (StLe.mk [(1000, 1000), (1008, 1008), (1016, 1016), (1024, 1024), (1032, 1032)] rfl rfl ⟨⟨_, rfl, by first | rfl | (simp only [AV.ren]; congr 1; omega) | (simp only [slO_ren]; rfl), rfl⟩, ⟨_, rfl, by first | rfl | (simp only [AV.ren]; congr 1; omega) | (simp only [slO_ren]; rfl), rfl⟩, ⟨_, rfl, by first | rfl | (simp only [AV.ren]; congr 1; omega) | (simp only [slO_ren]; rfl), rfl⟩, ⟨_, rfl, by first | rfl | (simp only [AV.ren]; congr 1; omega) | (simp only [slO_ren]; rfl), rfl⟩, ⟨_, rfl, by first | rfl | (simp only [AV.ren]; congr 1; omega) | (simp only [slO_ren]; rfl), rfl⟩, ⟨_, rfl, by first | rfl | (simp only [AV.ren]; congr 1; omega) | (simp only [slO_ren]; rfl), rfl⟩, trivial⟩ (⟨⟨_, _, rfl, rfl, rfl, rfl, id, rfl⟩, ⟨⟨_, _, rfl, rfl, rfl, rfl, id, rfl⟩, ⟨⟨_, _, rfl, rfl, out_ren (a := 1024) (b := 1032) k us bs i j rfl rfl, rfl, id, out_nm (a := 1024) (b := 1032) k us bs i j rfl rfl⟩, HLe.oc (opt_le rfl (fun _ h => h) rfl rfl) (HLe.oc (opt_le rfl (fun _ h => h) rfl rfl) (trivial))⟩⟩⟩)) ?_
     rintro ⟨m, hm, hm6⟩
     dsimp only
     refine .seq ?_
     refine .seq ?_
     refine .region ?_
     refine .q (op_move rfl) trivial rfl ?_
     refine .q (op_fieldAddr (m := 0) Tryd.underlying27 rfl (by kernel_rfl) rfl) trivial rfl ?_
     refine .as (.ptr 1000 3) rfl ?_
     refine .q (op_load Tryd.underlying24 rfl rfl rfl rfl (by show 3 < 5; decide)) trivial rfl ?_
     refine .q (op_move rfl) trivial rfl ?_
     refine .q (op_indexAddr_fsl (z := 1) Tryd.underlying24 inf23.sz (by decide) rfl rfl rfl (show j < ns.length by omega)) trivial rfl ?_
     refine .q (op_load_fptr Tryd.underlying23 rfl rfl (get_dsl (show j < ns.length by omega))) trivial rfl ?_
     refine .q (op_len_dsl Tryd.underlying23 rfl) trivial rfl ?_
     refine .q (op_cmpI rfl rfl rfl) trivial rfl ?_
     refine .q (op_move rfl) trivial rfl ?_
     refine .split (fun hg66 => ?_) (fun hg66 => ?_)
     ·simp only [decide_eq_true_eq] at hg66
      refine .q (op_move rfl) ⟨_, rfl, rfl⟩ rfl ?_
      refine .q (op_cmpI rfl rfl rfl) ⟨_, rfl, rfl⟩ rfl ?_
      refine .q (op_pick_true rfl rfl rfl) trivial rfl ?_
      refine .nil ?_
      show Ev _ _ _ _ _
      refine .cond rfl (fun hc69 => ?_) (fun hc69 => ?_)
      ·simp only [decide_eq_true_eq] at hc69
       refine .skip ?_
       show Ev _ _ _ _ _
       refine .seq ?_
       refine .block ?_
       refine .region ?_
       refine .q (op_move rfl) trivial rfl ?_
       refine .q (op_fieldAddr (m := 0) Tryd.underlying27 rfl (by kernel_rfl) rfl) trivial rfl ?_
       refine .as (.ptr 1000 3) rfl ?_
       refine .q (op_load Tryd.underlying24 rfl rfl rfl rfl (by show 3 < 5; decide)) trivial rfl ?_
       refine .q (op_move rfl) trivial rfl ?_
       refine .q (op_indexAddr_fsl (z := 1) Tryd.underlying24 inf23.sz (by decide) rfl rfl rfl (show j < ns.length by omega)) trivial rfl ?_
       refine .q (op_load_fptr Tryd.underlying23 rfl rfl (get_dsl (show j < ns.length by omega))) trivial rfl ?_
       refine .q (op_move rfl) trivial rfl ?_
       refine .q (op_indexAddr_dsl Tryd.underlying23 inf9.sz rfl rfl rfl (show m < (ns.getD j []).length by omega)) trivial rfl ?_
       refine .q (op_load_dptr Tryd.underlying9 rfl rfl (get_str (show m < (ns.getD j []).length by omega))) trivial rfl ?_
       refine .q (op_call (U := []) [] [] (cut_ev ((ns.getD j []).getD m []) 70 (hnj j m)) Tryd.func14 (by kernel_rfl) rfl rfl rfl (⟨⟨_, rfl, rfl, rfl⟩, ⟨_, rfl, rfl, rfl⟩, trivial⟩) (trivial) (trivial) (trivial) rfl) trivial rfl ?_
       refine .a (ap_build (us := [_]) (c := .aggS [_]) Tryd.underlying23 inf9 rfl (by decide) (by decide) ⟨rfl, rfl, rfl, trivial⟩ rfl) trivial rfl ?_
       refine .a (ap_append_slO (c := .aggS (((ns.getD j []).take m).map (List.take 70))) (c' := .aggS ((((ns.getD j []).take m).map (List.take 70)) ++ [(List.take 70 ((ns.getD j []).getD m []))])) Tryd.underlying23 Tryd.underlying23 (.inr ⟨_, rfl⟩) inf9 rfl (fun _ h => h) (by show (List.map _ _).length = m * 1; simp only [List.length_map, List.length_take, Nat.mul_one]; omega) (srcs_sl (b := 1048) (o := 0) (m := 1) (z := 1) (k := ⟨.aggS [(List.take 70 ((ns.getD j []).getD m []))], 9, true⟩) rfl rfl (Nat.le_refl 1) rfl) (by show ((((ns.getD j []).take m).map (List.take 70)) ++ [(List.take 70 ((ns.getD j []).getD m []))]).map _ = _; rw [List.map_append]; rfl) (by decide) (Nat.le_of_ble_eq_true rfl) (by omega)) trivial rfl ?_
       refine .q (op_assign rfl) trivial rfl ?_
       refine .nil ?_
       show Ev _ _ _ _ _
       refine .region ?_
       refine .q (op_move rfl) trivial rfl ?_
       refine .q (op_addI rfl rfl ⟨by omega, by omega⟩) trivial rfl ?_
       refine .q (op_assign rfl) trivial rfl ?_
       refine .nil ?_
       exact ⟨⟨m + 1, by omega, by omega⟩, by show 6 - (m + 1) < 6 - m; omega, StLe.mk [(1000, 1000), (1008, 1008), (1016, 1016), (1024, 1024), (1032, 1032), (1040, 1056)] rfl rfl ⟨⟨_, rfl, by first | rfl | (simp only [AV.ren]; congr 1; omega) | (simp only [slO_ren]; rfl), rfl⟩, ⟨_, rfl, by first | rfl | (simp only [AV.ren]; congr 1; omega) | (simp only [slO_ren]; rfl), rfl⟩, ⟨_, rfl, by first | rfl | (simp only [AV.ren]; congr 1; omega) | (simp only [slO_ren]; rfl), rfl⟩, ⟨_, rfl, by first | rfl | (simp only [AV.ren]; congr 1; omega) | (simp only [slO_ren]; rfl), rfl⟩, ⟨_, rfl, by first | rfl | (simp only [AV.ren]; congr 1; omega) | (simp only [slO_ren]; rfl), rfl⟩, ⟨_, rfl, by first | rfl | (simp only [AV.ren]; congr 1; omega) | (simp only [slO_ren]; rfl), rfl⟩, trivial⟩ (⟨⟨_, _, rfl, rfl, rfl, rfl, id, rfl⟩, ⟨⟨_, _, rfl, rfl, rfl, rfl, id, rfl⟩, ⟨⟨_, _, rfl, rfl, out_ren (a := 1024) (b := 1032) k us bs i j rfl rfl, rfl, id, out_nm (a := 1024) (b := 1032) k us bs i j rfl rfl⟩, HLe.oc (opt_le rfl (fun _ h => h) rfl rfl) (HLe.oc (opt_le rfl (fun _ h => h) rfl rfl) (⟨⟨_, _, rfl, rfl, congrArg AV.aggS (map_take_succ (f := List.take 70) (d := []) (show m < (ns.getD j []).length by omega)), rfl, id, rfl⟩, trivial⟩))⟩⟩⟩)⟩
      ·simp only [decide_eq_false_iff_not] at hc69
       refine .exit ?_
       show Ev _ _ _ _ _
       have eL : (((ns.getD j []).take m).map (List.take 70)) = fwL (ns.getD j []) := congrArg (List.map (List.take 70)) (take_end hm hm6 (by omega))
       refine Ev.freezeS2 (t := 6) (b := 1040) (n := m) (e := 9) (L := (((ns.getD j []).take m).map (List.take 70))) (fwL (ns.getD j [])) eL (Nat.le_of_ble_eq_true rfl) rfl rfl (by rw [List.length_map, List.length_take]; omega) ?_
       show Ev _ _ _ _ _
       refine .region ?_
       refine .q (op_fieldAddr (m := 0) Tryd.underlying27 rfl (by kernel_rfl) rfl) trivial rfl ?_
       refine .as (.ptr 1016 3) rfl ?_
       refine .q (op_load Tryd.underlying24 rfl rfl rfl rfl (by show 3 < 5; decide)) trivial rfl ?_
       refine .q (op_move rfl) trivial rfl ?_
       refine .a (ap_build (us := [.dsl (fwL (ns.getD j []))]) (c := .aggD [(fwL (ns.getD j []))]) Tryd.underlying24 inf23 rfl (by decide) (by decide) ⟨rfl, rfl, rfl, trivial⟩ rfl) trivial rfl ?_
       refine .a (ap_append_slO (c := .aggD ((ns.take j).map fwL)) (c' := .aggD (((ns.take j).map fwL) ++ [(fwL (ns.getD j []))])) Tryd.underlying24 Tryd.underlying24 (.inr ⟨_, rfl⟩) inf23 rfl (fun _ h => h) (by show (List.map _ _).length = j * 1; simp only [List.length_map, List.length_take, Nat.mul_one]; omega) (srcs_sl (b := 1048) (o := 0) (m := 1) (z := 1) (k := ⟨.aggD [(fwL (ns.getD j []))], 23, true⟩) rfl rfl (Nat.le_refl 1) rfl) (by show (((ns.take j).map fwL) ++ [(fwL (ns.getD j []))]).map _ = _; rw [List.map_append]; rfl) (by decide) (Nat.le_of_ble_eq_true rfl) (by omega)) trivial rfl ?_
       refine .q (op_fieldAddr (m := 0) Tryd.underlying27 rfl (by kernel_rfl) rfl) trivial rfl ?_
       refine .as (.ptr 1016 3) rfl ?_
       refine .w (op_store (by kernel_rfl) rfl rfl rfl rfl rfl (by show 3 < 5; decide)) trivial rfl ?_
       refine .nil ?_
       show Ev _ _ _ _ _
       refine .region ?_
       refine .q (op_move rfl) trivial rfl ?_
       refine .q (op_addI rfl rfl ⟨by omega, by omega⟩) trivial rfl ?_
       refine .q (op_assign rfl) trivial rfl ?_
       refine .nil ?_
       exact ⟨⟨j + 1, by omega, by omega⟩, by show 14 - (j + 1) < 14 - j; omega, StLe.mk [(1000, 1000), (1008, 1008), (1016, 1016), (1024, 1024), (1032, 1056)] rfl rfl ⟨⟨_, rfl, by first | rfl | (simp only [AV.ren]; congr 1; omega) | (simp only [slO_ren]; rfl), rfl⟩, ⟨_, rfl, by first | rfl | (simp only [AV.ren]; congr 1; omega) | (simp only [slO_ren]; rfl), rfl⟩, ⟨_, rfl, by first | rfl | (simp only [AV.ren]; congr 1; omega) | (simp only [slO_ren]; rfl), rfl⟩, ⟨_, rfl, by first | rfl | (simp only [AV.ren]; congr 1; omega) | (simp only [slO_ren]; rfl), rfl⟩, trivial⟩ (⟨⟨_, _, rfl, rfl, rfl, rfl, id, rfl⟩, ⟨⟨_, _, rfl, rfl, rfl, rfl, id, rfl⟩, ⟨⟨_, _, rfl, rfl, out_ren (a := 1024) (b := 1056) k us bs i (j + 1) rfl rfl, rfl, id, out_nm (a := 1024) (b := 1056) k us bs i (j + 1) rfl rfl⟩, HLe.oc (opt_le rfl (fun _ h => h) rfl rfl) (⟨⟨_, _, rfl, rfl, congrArg AV.aggD (map_take_succ (f := fwL) (d := []) (show j < ns.length by omega)), rfl, id, rfl⟩, trivial⟩)⟩⟩⟩)⟩
     ·simp only [decide_eq_false_iff_not] at hg66
      refine .no ⟨_, rfl, rfl⟩ rfl ?_
      refine .no ⟨_, rfl, rfl⟩ rfl ?_
      refine .q (op_pick_false rfl rfl rfl) trivial rfl ?_
      refine .nil ?_
      show Ev _ _ _ _ _
      refine .cond_false rfl rfl ?_
      refine .exit ?_
      show Ev _ _ _ _ _
      have eL : (((ns.getD j []).take m).map (List.take 70)) = fwL (ns.getD j []) := congrArg (List.map (List.take 70)) (take_end hm hm6 (by omega))
      refine Ev.freezeS2 (t := 6) (b := 1040) (n := m) (e := 9) (L := (((ns.getD j []).take m).map (List.take 70))) (fwL (ns.getD j [])) eL (Nat.le_of_ble_eq_true rfl) rfl rfl (by rw [List.length_map, List.length_take]; omega) ?_
      show Ev _ _ _ _ _
      refine .region ?_
      refine .q (op_fieldAddr (m := 0) Tryd.underlying27 rfl (by kernel_rfl) rfl) trivial rfl ?_
      refine .as (.ptr 1016 3) rfl ?_
      refine .q (op_load Tryd.underlying24 rfl rfl rfl rfl (by show 3 < 5; decide)) trivial rfl ?_
      refine .q (op_move rfl) trivial rfl ?_
      refine .a (ap_build (us := [.dsl (fwL (ns.getD j []))]) (c := .aggD [(fwL (ns.getD j []))]) Tryd.underlying24 inf23 rfl (by decide) (by decide) ⟨rfl, rfl, rfl, trivial⟩ rfl) trivial rfl ?_
      refine .a (ap_append_slO (c := .aggD ((ns.take j).map fwL)) (c' := .aggD (((ns.take j).map fwL) ++ [(fwL (ns.getD j []))])) Tryd.underlying24 Tryd.underlying24 (.inr ⟨_, rfl⟩) inf23 rfl (fun _ h => h) (by show (List.map _ _).length = j * 1; simp only [List.length_map, List.length_take, Nat.mul_one]; omega) (srcs_sl (b := 1048) (o := 0) (m := 1) (z := 1) (k := ⟨.aggD [(fwL (ns.getD j []))], 23, true⟩) rfl rfl (Nat.le_refl 1) rfl) (by show (((ns.take j).map fwL) ++ [(fwL (ns.getD j []))]).map _ = _; rw [List.map_append]; rfl) (by decide) (Nat.le_of_ble_eq_true rfl) (by omega)) trivial rfl ?_
      refine .q (op_fieldAddr (m := 0) Tryd.underlying27 rfl (by kernel_rfl) rfl) trivial rfl ?_
      refine .as (.ptr 1016 3) rfl ?_
      refine .w (op_store (by kernel_rfl) rfl rfl rfl rfl rfl (by show 3 < 5; decide)) trivial rfl ?_
      refine .nil ?_
      show Ev _ _ _ _ _
      refine .region ?_
      refine .q (op_move rfl) trivial rfl ?_
      refine .q (op_addI rfl rfl ⟨by omega, by omega⟩) trivial rfl ?_
      refine .q (op_assign rfl) trivial rfl ?_
      refine .nil ?_
      exact ⟨⟨j + 1, by omega, by omega⟩, by show 14 - (j + 1) < 14 - j; omega, StLe.mk [(1000, 1000), (1008, 1008), (1016, 1016), (1024, 1024), (1032, 1056)] rfl rfl ⟨⟨_, rfl, by first | rfl | (simp only [AV.ren]; congr 1; omega) | (simp only [slO_ren]; rfl), rfl⟩, ⟨_, rfl, by first | rfl | (simp only [AV.ren]; congr 1; omega) | (simp only [slO_ren]; rfl), rfl⟩, ⟨_, rfl, by first | rfl | (simp only [AV.ren]; congr 1; omega) | (simp only [slO_ren]; rfl), rfl⟩, ⟨_, rfl, by first | rfl | (simp only [AV.ren]; congr 1; omega) | (simp only [slO_ren]; rfl), rfl⟩, trivial⟩ (⟨⟨_, _, rfl, rfl, rfl, rfl, id, rfl⟩, ⟨⟨_, _, rfl, rfl, rfl, rfl, id, rfl⟩, ⟨⟨_, _, rfl, rfl, out_ren (a := 1024) (b := 1056) k us bs i (j + 1) rfl rfl, rfl, id, out_nm (a := 1024) (b := 1056) k us bs i (j + 1) rfl rfl⟩, HLe.oc (opt_le rfl (fun _ h => h) rfl rfl) (⟨⟨_, _, rfl, rfl, congrArg AV.aggD (map_take_succ (f := fwL) (d := []) (show j < ns.length by omega)), rfl, id, rfl⟩, trivial⟩)⟩⟩⟩)⟩
    ·simp only [decide_eq_false_iff_not] at hc55
     refine .exit ?_
     show Ev _ _ _ _ _
     refine .seq ?_
     have eN : ((ns.take j).map fwL) = fwN ns := congrArg (List.map fwL) (take_end hj hj14 (by omega))
     refine Ev.weak (StLe.freezeO (cb := 1016) (i := 2) (b := 1024) (n := i) (c := .aggS ((ss.take i).map (List.take 100))) (e := 9) (Nat.le_of_ble_eq_true rfl) rfl rfl rfl (by decide) (by show (List.map _ _).length = _; rw [List.length_map, List.length_map, List.length_take]; omega) (fun x hx => by obtain ⟨_, _, rfl⟩ := List.mem_map.1 (show x ∈ List.map AV.str _ from hx); rfl) (cells5 rfl rfl (by first | rfl | exact slO_cell _ _ _) (by first | rfl | exact slO_cell _ _ _) rfl)) ?_
     refine Ev.weak (StLe.freezeO (cb := 1016) (i := 3) (b := 1032) (n := j) (c := .aggD ((ns.take j).map fwL)) (e := 23) (Nat.le_of_ble_eq_true rfl) rfl rfl rfl (by decide) (by show (List.map _ _).length = _; rw [List.length_map, List.length_map, List.length_take]; omega) (fun x hx => by obtain ⟨_, _, rfl⟩ := List.mem_map.1 (show x ∈ List.map AV.dsl _ from hx); rfl) (cells5 rfl rfl (by first | rfl | exact slO_cell _ _ _) (by first | rfl | exact slO_cell _ _ _) rfl)) ?_
     refine Ev.weak (StLe.weakB (cb := 1016) (ec := 27) (oc := true) (cs := [.i64 k, .fsl ((us.take 9).map .u32) (us.take 9).length 1, .fsl (((ss.take i).map (List.take 100)).map AV.str) i 1, .fsl (((ns.take j).map fwL).map AV.dsl) j 1, .fsl ((bs.take 9).map .bool) (bs.take 9).length 1]) (cs' := [.i64 k, .fsl ((us.take 9).map .u32) (us.take 9).length 1, .dsl (fwS ss), .fsl ((fwN ns).map AV.dsl) (fwN ns).length 1, .fsl ((bs.take 9).map .bool) (bs.take 9).length 1]) (Nat.le_of_ble_eq_true rfl) rfl rfl (weak5 rfl rfl rfl rfl rfl (fun _ _ h => h) (by rw [congrArg (List.map (List.take 100)) eS]; exact fsl_dsl (by rw [← congrArg (List.map (List.take 100)) eS, List.length_map, List.length_take]; omega)) (by rw [← eN, List.length_map, List.length_take, Nat.min_eq_left hj]; exact fun _ _ h => h) (fun _ _ h => h))) ?_
     show Ev _ _ _ _ _
     refine .region ?_
     refine .q (op_loadRow Tryd.underlying27 rfl (by kernel_rfl) rfl rfl rfl (rfl)) trivial rfl ?_
     refine .w (op_storeRow (by kernel_rfl) rfl rfl rfl rfl rfl (rfl) (rfl)) trivial rfl ?_
     refine .nil ?_
     show Ev _ _ _ _ _
     refine .ret ?_
     show RetOk _ _ _ _ _ _ _
     exact retc1 rfl (.inl rfl) ⟨_, _, _, _, rfl, rfl, rfl, rfl, rfl, Tryd.underlying27, rfl, (by kernel_rfl)⟩ trivial
   ·simp only [decide_eq_false_iff_not] at hg52
    refine .no ⟨_, rfl, rfl⟩ rfl ?_
    refine .no ⟨_, rfl, rfl⟩ rfl ?_
    refine .q (op_pick_false rfl rfl rfl) trivial rfl ?_
    refine .nil ?_
    show Ev _ _ _ _ _
    refine .cond_false rfl rfl ?_
    refine .exit ?_
    show Ev _ _ _ _ _
    refine .seq ?_
    have eN : ((ns.take j).map fwL) = fwN ns := congrArg (List.map fwL) (take_end hj hj14 (by omega))
    refine Ev.weak (StLe.freezeO (cb := 1016) (i := 2) (b := 1024) (n := i) (c := .aggS ((ss.take i).map (List.take 100))) (e := 9) (Nat.le_of_ble_eq_true rfl) rfl rfl rfl (by decide) (by show (List.map _ _).length = _; rw [List.length_map, List.length_map, List.length_take]; omega) (fun x hx => by obtain ⟨_, _, rfl⟩ := List.mem_map.1 (show x ∈ List.map AV.str _ from hx); rfl) (cells5 rfl rfl (by first | rfl | exact slO_cell _ _ _) (by first | rfl | exact slO_cell _ _ _) rfl)) ?_
    refine Ev.weak (StLe.freezeO (cb := 1016) (i := 3) (b := 1032) (n := j) (c := .aggD ((ns.take j).map fwL)) (e := 23) (Nat.le_of_ble_eq_true rfl) rfl rfl rfl (by decide) (by show (List.map _ _).length = _; rw [List.length_map, List.length_map, List.length_take]; omega) (fun x hx => by obtain ⟨_, _, rfl⟩ := List.mem_map.1 (show x ∈ List.map AV.dsl _ from hx); rfl) (cells5 rfl rfl (by first | rfl | exact slO_cell _ _ _) (by first | rfl | exact slO_cell _ _ _) rfl)) ?_
    refine Ev.weak (StLe.weakB (cb := 1016) (ec := 27) (oc := true) (cs := [.i64 k, .fsl ((us.take 9).map .u32) (us.take 9).length 1, .fsl (((ss.take i).map (List.take 100)).map AV.str) i 1, .fsl (((ns.take j).map fwL).map AV.dsl) j 1, .fsl ((bs.take 9).map .bool) (bs.take 9).length 1]) (cs' := [.i64 k, .fsl ((us.take 9).map .u32) (us.take 9).length 1, .dsl (fwS ss), .fsl ((fwN ns).map AV.dsl) (fwN ns).length 1, .fsl ((bs.take 9).map .bool) (bs.take 9).length 1]) (Nat.le_of_ble_eq_true rfl) rfl rfl (weak5 rfl rfl rfl rfl rfl (fun _ _ h => h) (by rw [congrArg (List.map (List.take 100)) eS]; exact fsl_dsl (by rw [← congrArg (List.map (List.take 100)) eS, List.length_map, List.length_take]; omega)) (by rw [← eN, List.length_map, List.length_take, Nat.min_eq_left hj]; exact fun _ _ h => h) (fun _ _ h => h))) ?_
    show Ev _ _ _ _ _
    refine .region ?_
    refine .q (op_loadRow Tryd.underlying27 rfl (by kernel_rfl) rfl rfl rfl (rfl)) trivial rfl ?_
    refine .w (op_storeRow (by kernel_rfl) rfl rfl rfl rfl rfl (rfl) (rfl)) trivial rfl ?_
    refine .nil ?_
    show Ev _ _ _ _ _
    refine .ret ?_
    show RetOk _ _ _ _ _ _ _
    exact retc1 rfl (.inl rfl) ⟨_, _, _, _, rfl, rfl, rfl, rfl, rfl, Tryd.underlying27, rfl, (by kernel_rfl)⟩ trivial
 ·simp only [decide_eq_false_iff_not] at hg30
  refine .no ⟨_, rfl, rfl⟩ rfl ?_
  refine .no ⟨_, rfl, rfl⟩ rfl ?_
  refine .q (op_pick_false rfl rfl rfl) trivial rfl ?_
  refine .nil ?_
  show Ev _ _ _ _ _
  refine .cond_false rfl rfl ?_
  refine .exit ?_
  show Ev _ _ _ _ _
  refine .seq ?_
  refine .seq ?_
  refine .region ?_
  refine .q (op_assign rfl) trivial rfl ?_
  refine .nil ?_
  show Ev _ _ _ _ _
  refine .block ?_
  have eS := take_end hi hi9 (by omega)
  refine Ev.loop (ι := { j : Nat // j ≤ ns.length ∧ j ≤ 14 }) (fun q => ⟨[(1, .ptr 1000 0), (2, .ptr 1008 0), (3, .ptr 1016 0), (5, .i64 ((q.1 : Nat) : Int))], [(1000, some ⟨msgF k us ss ns bs, 27, true⟩), (1008, some ⟨.agg [.i64 0, .nilsl, .nilsl, .nilsl, .nilsl], 27, true⟩), (1016, some ⟨.agg [.i64 k, .fsl ((us.take 9).map .u32) (us.take 9).length 1, slO 1024 i 1, slO 1032 q.1 1, .fsl ((bs.take 9).map .bool) (bs.take 9).length 1], 27, true⟩), (1024, opt (.aggS ((ss.take i).map (List.take 100))) i 9), (1032, opt (.aggD ((ns.take q.1).map fwL)) q.1 23)], 1048⟩) (fun q => 14 - q.1) ⟨0, Nat.zero_le _, Nat.zero_le _⟩ (StLe.mk [(1000, 1000), (1008, 1008), (1016, 1016), (1024, 1024), (1032, 1032)] rfl rfl ⟨⟨_, rfl, by first | rfl | (simp only [AV.ren]; congr 1; omega) | (simp only [slO_ren]; rfl), rfl⟩, ⟨_, rfl, by first | rfl | (simp only [AV.ren]; congr 1; omega) | (simp only [slO_ren]; rfl), rfl⟩, ⟨_, rfl, by first | rfl | (simp only [AV.ren]; congr 1; omega) | (simp only [slO_ren]; rfl), rfl⟩, ⟨_, rfl, by first | rfl | (simp only [AV.ren]; congr 1; omega) | (simp only [slO_ren]; rfl), rfl⟩, trivial⟩ (⟨⟨_, _, rfl, rfl, rfl, rfl, id, rfl⟩, ⟨⟨_, _, rfl, rfl, rfl, rfl, id, rfl⟩, ⟨⟨_, _, rfl, rfl, out_ren (a := 1024) (b := 1032) k us bs i 0 rfl rfl, rfl, id, out_nm (a := 1024) (b := 1032) k us bs i 0 rfl rfl⟩, HLe.oc (opt_le rfl (fun _ h => h) rfl rfl) (trivial)⟩⟩⟩)) ?_
  rintro ⟨j, hj, hj14⟩
  dsimp only
  refine .seq ?_
  refine .seq ?_
  refine .region ?_
  refine .q (op_move rfl) trivial rfl ?_
  refine .q (op_fieldAddr (m := 0) Tryd.underlying27 rfl (by kernel_rfl) rfl) trivial rfl ?_
  refine .as (.ptr 1000 3) rfl ?_
  refine .q (op_load Tryd.underlying24 rfl rfl rfl rfl (by show 3 < 5; decide)) trivial rfl ?_
  refine .q (op_len_fsl Tryd.underlying24 rfl) trivial rfl ?_
  refine .q (op_cmpI rfl rfl rfl) trivial rfl ?_
  refine .q (op_move rfl) trivial rfl ?_
  refine .split (fun hg52 => ?_) (fun hg52 => ?_)
  ·simp only [decide_eq_true_eq] at hg52
   refine .q (op_move rfl) ⟨_, rfl, rfl⟩ rfl ?_
   refine .q (op_cmpI rfl rfl rfl) ⟨_, rfl, rfl⟩ rfl ?_
   refine .q (op_pick_true rfl rfl rfl) trivial rfl ?_
   refine .nil ?_
   show Ev _ _ _ _ _
   refine .cond rfl (fun hc55 => ?_) (fun hc55 => ?_)
   ·simp only [decide_eq_true_eq] at hc55
    refine .skip ?_
    show Ev _ _ _ _ _
    refine .seq ?_
    refine .block ?_
    refine .seq ?_
    refine .region ?_
    refine .q (op_assign rfl) trivial rfl ?_
    refine .nil ?_
    show Ev _ _ _ _ _
    refine .seq ?_
    refine .seq ?_
    refine .region ?_
    refine .q (op_assign rfl) trivial rfl ?_
    refine .nil ?_
    show Ev _ _ _ _ _
    refine .block ?_
    refine Ev.loop (ι := { m : Nat // m ≤ (ns.getD j []).length ∧ m ≤ 6 }) (fun q => ⟨[(1, .ptr 1000 0), (2, .ptr 1008 0), (3, .ptr 1016 0), (5, .i64 ((j : Nat) : Int)), (6, slO 1040 q.1 1), (7, .i64 ((q.1 : Nat) : Int))], [(1000, some ⟨msgF k us ss ns bs, 27, true⟩), (1008, some ⟨.agg [.i64 0, .nilsl, .nilsl, .nilsl, .nilsl], 27, true⟩), (1016, some ⟨.agg [.i64 k, .fsl ((us.take 9).map .u32) (us.take 9).length 1, slO 1024 i 1, slO 1032 j 1, .fsl ((bs.take 9).map .bool) (bs.take 9).length 1], 27, true⟩), (1024, opt (.aggS ((ss.take i).map (List.take 100))) i 9), (1032, opt (.aggD ((ns.take j).map fwL)) j 23), (1040, opt (.aggS (((ns.getD j []).take q.1).map (List.take 70))) q.1 9)], 1048⟩) (fun q => 6 - q.1) ⟨0, Nat.zero_le _, Nat.zero_le _⟩ (StLe.mk [(1000, 1000), (1008, 1008), (1016, 1016), (1024, 1024), (1032, 1032)] rfl rfl ⟨⟨_, rfl, by first | rfl | (simp only [AV.ren]; congr 1; omega) | (simp only [slO_ren]; rfl), rfl⟩, ⟨_, rfl, by first | rfl | (simp only [AV.ren]; congr 1; omega) | (simp only [slO_ren]; rfl), rfl⟩, ⟨_, rfl, by first | rfl | (simp only [AV.ren]; congr 1; omega) | (simp only [slO_ren]; rfl), rfl⟩, ⟨_, rfl, by first | rfl | (simp only [AV.ren]; congr 1; omega) | (simp only [slO_ren]; rfl), rfl⟩, ⟨_, rfl, by first | rfl | (simp only [AV.ren]; congr 1; omega) | (simp only [slO_ren]; rfl), rfl⟩, ⟨_, rfl, by first | rfl | (simp only [AV.ren]; congr 1; omega) | (simp only [slO_ren]; rfl), rfl⟩, trivial⟩ (⟨⟨_, _, rfl, rfl, rfl, rfl, id, rfl⟩, ⟨⟨_, _, rfl, rfl, rfl, rfl, id, rfl⟩, ⟨⟨_, _, rfl, rfl, out_ren (a := 1024) (b := 1032) k us bs i j rfl rfl, rfl, id, out_nm (a := 1024) (b := 1032) k us bs i j rfl rfl⟩, HLe.oc (opt_le rfl (fun _ h => h) rfl rfl) (HLe.oc (opt_le rfl (fun _ h => h) rfl rfl) (trivial))⟩⟩⟩)) ?_
    rintro ⟨m, hm, hm6⟩
    dsimp only
    refine .seq ?_
    refine .seq ?_
    refine .region ?_
    refine .q (op_move rfl) trivial rfl ?_
    refine .q (op_fieldAddr (m := 0) Tryd.underlying27 rfl (by kernel_rfl) rfl) trivial rfl ?_
    refine .as (.ptr 1000 3) rfl ?_
    refine .q (op_load Tryd.underlying24 rfl rfl rfl rfl (by show 3 < 5; decide)) trivial rfl ?_
    refine .q (op_move rfl) trivial rfl ?_
    refine .q (op_indexAddr_fsl (z := 1) Tryd.underlying24 inf23.sz (by decide) rfl rfl rfl (show j < ns.length by omega)) trivial rfl ?_
    refine .q (op_load_fptr Tryd.underlying23 rfl rfl (get_dsl (show j < ns.length by omega))) trivial rfl ?_
    refine .q (op_len_dsl Tryd.underlying23 rfl) trivial rfl ?_
    refine .q (op_cmpI rfl rfl rfl) trivial rfl ?_
    refine .q (op_move rfl) trivial rfl ?_
    refine .split (fun hg66 => ?_) (fun hg66 => ?_)
    ·simp only [decide_eq_true_eq] at hg66
     refine .q (op_move rfl) ⟨_, rfl, rfl⟩ rfl ?_
     refine .q (op_cmpI rfl rfl rfl) ⟨_, rfl, rfl⟩ rfl ?_
     refine .q (op_pick_true rfl rfl rfl) trivial rfl ?_
     refine .nil ?_
     show Ev _ _ _ _ _
     refine .cond rfl (fun hc69 => ?_) (fun hc69 => ?_)
     ·simp only [decide_eq_true_eq] at hc69
      refine .skip ?_
      show Ev _ _ _ _ _
      refine .seq ?_
      refine .block ?_
      refine .region ?_
      refine .q (op_move rfl) trivial rfl ?_
      refine .q (op_fieldAddr (m := 0) Tryd.underlying27 rfl (by kernel_rfl) rfl) trivial rfl ?_
      refine .as (.ptr 1000 3) rfl ?_
      refine .q (op_load Tryd.underlying24 rfl rfl rfl rfl (by show 3 < 5; decide)) trivial rfl ?_
      refine .q (op_move rfl) trivial rfl ?_
      refine .q (op_indexAddr_fsl (z := 1) Tryd.underlying24 inf23.sz (by decide) rfl rfl rfl (show j < ns.length by omega)) trivial rfl ?_
      refine .q (op_load_fptr Tryd.underlying23 rfl rfl (get_dsl (show j < ns.length by omega))) trivial rfl ?_
      refine .q (op_move rfl) trivial rfl ?_
      refine .q (op_indexAddr_dsl Tryd.underlying23 inf9.sz rfl rfl rfl (show m < (ns.getD j []).length by omega)) trivial rfl ?_
      refine .q (op_load_dptr Tryd.underlying9 rfl rfl (get_str (show m < (ns.getD j []).length by omega))) trivial rfl ?_
      refine .q (op_call (U := []) [] [] (cut_ev ((ns.getD j []).getD m []) 70 (hnj j m)) Tryd.func14 (by kernel_rfl) rfl rfl rfl (⟨⟨_, rfl, rfl, rfl⟩, ⟨_, rfl, rfl, rfl⟩, trivial⟩) (trivial) (trivial) (trivial) rfl) trivial rfl ?_
      refine .a (ap_build (us := [_]) (c := .aggS [_]) Tryd.underlying23 inf9 rfl (by decide) (by decide) ⟨rfl, rfl, rfl, trivial⟩ rfl) trivial rfl ?_
      refine .a (ap_append_slO (c := .aggS (((ns.getD j []).take m).map (List.take 70))) (c' := .aggS ((((ns.getD j []).take m).map (List.take 70)) ++ [(List.take 70 ((ns.getD j []).getD m []))])) Tryd.underlying23 Tryd.underlying23 (.inr ⟨_, rfl⟩) inf9 rfl (fun _ h => h) (by show (List.map _ _).length = m * 1; simp only [List.length_map, List.length_take, Nat.mul_one]; omega) (srcs_sl (b := 1048) (o := 0) (m := 1) (z := 1) (k := ⟨.aggS [(List.take 70 ((ns.getD j []).getD m []))], 9, true⟩) rfl rfl (Nat.le_refl 1) rfl) (by show ((((ns.getD j []).take m).map (List.take 70)) ++ [(List.take 70 ((ns.getD j []).getD m []))]).map _ = _; rw [List.map_append]; rfl) (by decide) (Nat.le_of_ble_eq_true rfl) (by omega)) trivial rfl ?_
      refine .q (op_assign rfl) trivial rfl ?_
      refine .nil ?_
      show Ev _ _ _ _ _
      refine .region ?_
      refine .q (op_move rfl) trivial rfl ?_
      refine .q (op_addI rfl rfl ⟨by omega, by omega⟩) trivial rfl ?_
      refine .q (op_assign rfl) trivial rfl ?_
      refine .nil ?_
      exact ⟨⟨m + 1, by omega, by omega⟩, by show 6 - (m + 1) < 6 - m; omega, StLe.mk [(1000, 1000), (1008, 1008), (1016, 1016), (1024, 1024), (1032, 1032), (1040, 1056)] rfl rfl ⟨⟨_, rfl, by first | rfl | (simp only [AV.ren]; congr 1; omega) | (simp only [slO_ren]; rfl), rfl⟩, ⟨_, rfl, by first | rfl | (simp only [AV.ren]; congr 1; omega) | (simp only [slO_ren]; rfl), rfl⟩, ⟨_, rfl, by first | rfl | (simp only [AV.ren]; congr 1; omega) | (simp only [slO_ren]; rfl), rfl⟩, ⟨_, rfl, by first | rfl | (simp only [AV.ren]; congr 1; omega) | (simp only [slO_ren]; rfl), rfl⟩, ⟨_, rfl, by first | rfl | (simp only [AV.ren]; congr 1; omega) | (simp only [slO_ren]; rfl), rfl⟩, ⟨_, rfl, by first | rfl | (simp only [AV.ren]; congr 1; omega) | (simp only [slO_ren]; rfl), rfl⟩, trivial⟩ (⟨⟨_, _, rfl, rfl, rfl, rfl, id, rfl⟩, ⟨⟨_, _, rfl, rfl, rfl, rfl, id, rfl⟩, ⟨⟨_, _, rfl, rfl, out_ren (a := 1024) (b := 1032) k us bs i j rfl rfl, rfl, id, out_nm (a := 1024) (b := 1032) k us bs i j rfl rfl⟩, HLe.oc (opt_le rfl (fun _ h => h) rfl rfl) (HLe.oc (opt_le rfl (fun _ h => h) rfl rfl) (⟨⟨_, _, rfl, rfl, congrArg AV.aggS (map_take_succ (f := List.take 70) (d := []) (show m < (ns.getD j []).length by omega)), rfl, id, rfl⟩, trivial⟩))⟩⟩⟩)⟩
     ·simp only [decide_eq_false_iff_not] at hc69
      refine .exit ?_
      show Ev _ _ _ _ _
      have eL : (((ns.getD j []).take m).map (List.take 70)) = fwL (ns.getD j []) := congrArg (List.map (List.take 70)) (take_end hm hm6 (by omega))
      refine Ev.freezeS2 (t := 6) (b := 1040) (n := m) (e := 9) (L := (((ns.getD j []).take m).map (List.take 70))) (fwL (ns.getD j [])) eL (Nat.le_of_ble_eq_true rfl) rfl rfl (by rw [List.length_map, List.length_take]; omega) ?_
      show Ev _ _ _ _ _
      refine .region ?_
      refine .q (op_fieldAddr (m := 0) Tryd.underlying27 rfl (by kernel_rfl) rfl) trivial rfl ?_
      refine .as (.ptr 1016 3) rfl ?_
      refine .q (op_load Tryd.underlying24 rfl rfl rfl rfl (by show 3 < 5; decide)) trivial rfl ?_
      refine .q (op_move rfl) trivial rfl ?_
      refine .a (ap_build (us := [.dsl (fwL (ns.getD j []))]) (c := .aggD [(fwL (ns.getD j []))]) Tryd.underlying24 inf23 rfl (by decide) (by decide) ⟨rfl, rfl, rfl, trivial⟩ rfl) trivial rfl ?_
      refine .a (ap_append_slO (c := .aggD ((ns.take j).map fwL)) (c' := .aggD (((ns.take j).map fwL) ++ [(fwL (ns.getD j []))])) Tryd.underlying24 Tryd.underlying24 (.inr ⟨_, rfl⟩) inf23 rfl (fun _ h => h) (by show (List.map _ _).length = j * 1; simp only [List.length_map, List.length_take, Nat.mul_one]; omega) (srcs_sl (b := 1048) (o := 0) (m := 1) (z := 1) (k := ⟨.aggD [(fwL (ns.getD j []))], 23, true⟩) rfl rfl (Nat.le_refl 1) rfl) (by show (((ns.take j).map fwL) ++ [(fwL (ns.getD j []))]).map _ = _; rw [List.map_append]; rfl) (by decide) (Nat.le_of_ble_eq_true rfl) (by omega)) trivial rfl ?_
      refine .q (op_fieldAddr (m := 0) Tryd.underlying27 rfl (by kernel_rfl) rfl) trivial rfl ?_
      refine .as (.ptr 1016 3) rfl ?_
      refine .w (op_store (by kernel_rfl) rfl rfl rfl rfl rfl (by show 3 < 5; decide)) trivial rfl ?_
      refine .nil ?_
      show Ev _ _ _ _ _
      refine .region ?_
      refine .q (op_move rfl) trivial rfl ?_
      refine .q (op_addI rfl rfl ⟨by omega, by omega⟩) trivial rfl ?_
      refine .q (op_assign rfl) trivial rfl ?_
      refine .nil ?_
      exact ⟨⟨j + 1, by omega, by omega⟩, by show 14 - (j + 1) < 14 - j; omega, StLe.mk [(1000, 1000), (1008, 1008), (1016, 1016), (1024, 1024), (1032, 1056)] rfl rfl ⟨⟨_, rfl, by first | rfl | (simp only [AV.ren]; congr 1; omega) | (simp only [slO_ren]; rfl), rfl⟩, ⟨_, rfl, by first | rfl | (simp only [AV.ren]; congr 1; omega) | (simp only [slO_ren]; rfl), rfl⟩, ⟨_, rfl, by first | rfl | (simp only [AV.ren]; congr 1; omega) | (simp only [slO_ren]; rfl), rfl⟩, ⟨_, rfl, by first | rfl | (simp only [AV.ren]; congr 1; omega) | (simp only [slO_ren]; rfl), rfl⟩, trivial⟩ (⟨⟨_, _, rfl, rfl, rfl, rfl, id, rfl⟩, ⟨⟨_, _, rfl, rfl, rfl, rfl, id, rfl⟩, ⟨⟨_, _, rfl, rfl, out_ren (a := 1024) (b := 1056) k us bs i (j + 1) rfl rfl, rfl, id, out_nm (a := 1024) (b := 1056) k us bs i (j + 1) rfl rfl⟩, HLe.oc (opt_le rfl (fun _ h => h) rfl rfl) (⟨⟨_, _, rfl, rfl, congrArg AV.aggD (map_take_succ (f := fwL) (d := []) (show j < ns.length by omega)), rfl, id, rfl⟩, trivial⟩)⟩⟩⟩)⟩
    ·simp only [decide_eq_false_iff_not] at hg66
     refine .no ⟨_, rfl, rfl⟩ rfl ?_
     refine .no ⟨_, rfl, rfl⟩ rfl ?_
     refine .q (op_pick_false rfl rfl rfl) trivial rfl ?_
     refine .nil ?_
     show Ev _ _ _ _ _
     refine .cond_false rfl rfl ?_
     refine .exit ?_
     show Ev _ _ _ _ _
     have eL : (((ns.getD j []).take m).map (List.take 70)) = fwL (ns.getD j []) := congrArg (List.map (List.take 70)) (take_end hm hm6 (by omega))
     refine Ev.freezeS2 (t := 6) (b := 1040) (n := m) (e := 9) (L := (((ns.getD j []).take m).map (List.take 70))) (fwL (ns.getD j [])) eL (Nat.le_of_ble_eq_true rfl) rfl rfl (by rw [List.length_map, List.length_take]; omega) ?_
     show Ev _ _ _ _ _
     refine .region ?_
     refine .q (op_fieldAddr (m := 0) Tryd.underlying27 rfl (by kernel_rfl) rfl) trivial rfl ?_
     refine .as (.ptr 1016 3) rfl ?_
     refine .q (op_load Tryd.underlying24 rfl rfl rfl rfl (by show 3 < 5; decide)) trivial rfl ?_
     refine .q (op_move rfl) trivial rfl ?_
     refine .a (ap_build (us := [.dsl (fwL (ns.getD j []))]) (c := .aggD [(fwL (ns.getD j []))]) Tryd.underlying24 inf23 rfl (by decide) (by decide) ⟨rfl, rfl, rfl, trivial⟩ rfl) trivial rfl ?_
     refine .a (ap_append_slO (c := .aggD ((ns.take j).map fwL)) (c' := .aggD (((ns.take j).map fwL) ++ [(fwL (ns.getD j []))])) Tryd.underlying24 Tryd.underlying24 (.inr ⟨_, rfl⟩) inf23 rfl (fun _ h => h) (by show (List.map _ _).length = j * 1; simp only [List.length_map, List.length_take, Nat.mul_one]; omega) (srcs_sl (b := 1048) (o := 0) (m := 1) (z := 1) (k := ⟨.aggD [(fwL (ns.getD j []))], 23, true⟩) rfl rfl (Nat.le_refl 1) rfl) (by show (((ns.take j).map fwL) ++ [(fwL (ns.getD j []))]).map _ = _; rw [List.map_append]; rfl) (by decide) (Nat.le_of_ble_eq_true rfl) (by omega)) trivial rfl ?_
     refine .q (op_fieldAddr (m := 0) Tryd.underlying27 rfl (by kernel_rfl) rfl) trivial rfl ?_
     refine .as (.ptr 1016 3) rfl ?_
     refine .w (op_store (by kernel_rfl) rfl rfl rfl rfl rfl (by show 3 < 5; decide)) trivial rfl ?_
     refine .nil ?_
     show Ev _ _ _ _ _
     refine .region ?_
     refine .q (op_move rfl) trivial rfl ?_
     refine .q (op_addI rfl rfl ⟨by omega, by omega⟩) trivial rfl ?_
     refine .q (op_assign rfl) trivial rfl ?_
     refine .nil ?_
     exact ⟨⟨j + 1, by omega, by omega⟩, by show 14 - (j + 1) < 14 - j; omega, StLe.mk [(1000, 1000), (1008, 1008), (1016, 1016), (1024, 1024), (1032, 1056)] rfl rfl ⟨⟨_, rfl, by first | rfl | (simp only [AV.ren]; congr 1; omega) | (simp only [slO_ren]; rfl), rfl⟩, ⟨_, rfl, by first | rfl | (simp only [AV.ren]; congr 1; omega) | (simp only [slO_ren]; rfl), rfl⟩, ⟨_, rfl, by first | rfl | (simp only [AV.ren]; congr 1; omega) | (simp only [slO_ren]; rfl), rfl⟩, ⟨_, rfl, by first | rfl | (simp only [AV.ren]; congr 1; omega) | (simp only [slO_ren]; rfl), rfl⟩, trivial⟩ (⟨⟨_, _, rfl, rfl, rfl, rfl, id, rfl⟩, ⟨⟨_, _, rfl, rfl, rfl, rfl, id, rfl⟩, ⟨⟨_, _, rfl, rfl, out_ren (a := 1024) (b := 1056) k us bs i (j + 1) rfl rfl, rfl, id, out_nm (a := 1024) (b := 1056) k us bs i (j + 1) rfl rfl⟩, HLe.oc (opt_le rfl (fun _ h => h) rfl rfl) (⟨⟨_, _, rfl, rfl, congrArg AV.aggD (map_take_succ (f := fwL) (d := []) (show j < ns.length by omega)), rfl, id, rfl⟩, trivial⟩)⟩⟩⟩)⟩
   ·simp only [decide_eq_false_iff_not] at hc55
    refine .exit ?_
    show Ev _ _ _ _ _
    refine .seq ?_
    have eN : ((ns.take j).map fwL) = fwN ns := congrArg (List.map fwL) (take_end hj hj14 (by omega))
    refine Ev.weak (StLe.freezeO (cb := 1016) (i := 2) (b := 1024) (n := i) (c := .aggS ((ss.take i).map (List.take 100))) (e := 9) (Nat.le_of_ble_eq_true rfl) rfl rfl rfl (by decide) (by show (List.map _ _).length = _; rw [List.length_map, List.length_map, List.length_take]; omega) (fun x hx => by obtain ⟨_, _, rfl⟩ := List.mem_map.1 (show x ∈ List.map AV.str _ from hx); rfl) (cells5 rfl rfl (by first | rfl | exact slO_cell _ _ _) (by first | rfl | exact slO_cell _ _ _) rfl)) ?_
    refine Ev.weak (StLe.freezeO (cb := 1016) (i := 3) (b := 1032) (n := j) (c := .aggD ((ns.take j).map fwL)) (e := 23) (Nat.le_of_ble_eq_true rfl) rfl rfl rfl (by decide) (by show (List.map _ _).length = _; rw [List.length_map, List.length_map, List.length_take]; omega) (fun x hx => by obtain ⟨_, _, rfl⟩ := List.mem_map.1 (show x ∈ List.map AV.dsl _ from hx); rfl) (cells5 rfl rfl (by first | rfl | exact slO_cell _ _ _) (by first | rfl | exact slO_cell _ _ _) rfl)) ?_
    refine Ev.weak (StLe.weakB (cb := 1016) (ec := 27) (oc := true) (cs := [.i64 k, .fsl ((us.take 9).map .u32) (us.take 9).length 1, .fsl (((ss.take i).map (List.take 100)).map AV.str) i 1, .fsl (((ns.take j).map fwL).map AV.dsl) j 1, .fsl ((bs.take 9).map .bool) (bs.take 9).length 1]) (cs' := [.i64 k, .fsl ((us.take 9).map .u32) (us.take 9).length 1, .dsl (fwS ss), .fsl ((fwN ns).map AV.dsl) (fwN ns).length 1, .fsl ((bs.take 9).map .bool) (bs.take 9).length 1]) (Nat.le_of_ble_eq_true rfl) rfl rfl (weak5 rfl rfl rfl rfl rfl (fun _ _ h => h) (by rw [congrArg (List.map (List.take 100)) eS]; exact fsl_dsl (by rw [← congrArg (List.map (List.take 100)) eS, List.length_map, List.length_take]; omega)) (by rw [← eN, List.length_map, List.length_take, Nat.min_eq_left hj]; exact fun _ _ h => h) (fun _ _ h => h))) ?_
    show Ev _ _ _ _ _
    refine .region ?_
    refine .q (op_loadRow Tryd.underlying27 rfl (by kernel_rfl) rfl rfl rfl (rfl)) trivial rfl ?_
    refine .w (op_storeRow (by kernel_rfl) rfl rfl rfl rfl rfl (rfl) (rfl)) trivial rfl ?_
    refine .nil ?_
    show Ev _ _ _ _ _
    refine .ret ?_
    show RetOk _ _ _ _ _ _ _
    exact retc1 rfl (.inl rfl) ⟨_, _, _, _, rfl, rfl, rfl, rfl, rfl, Tryd.underlying27, rfl, (by kernel_rfl)⟩ trivial
  ·simp only [decide_eq_false_iff_not] at hg52
   refine .no ⟨_, rfl, rfl⟩ rfl ?_
   refine .no ⟨_, rfl, rfl⟩ rfl ?_
   refine .q (op_pick_false rfl rfl rfl) trivial rfl ?_
   refine .nil ?_
   show Ev _ _ _ _ _
   refine .cond_false rfl rfl ?_
   refine .exit ?_
   show Ev _ _ _ _ _
   refine .seq ?_
   have eN : ((ns.take j).map fwL) = fwN ns := congrArg (List.map fwL) (take_end hj hj14 (by omega))
   refine Ev.weak (StLe.freezeO (cb := 1016) (i := 2) (b := 1024) (n := i) (c := .aggS ((ss.take i).map (List.take 100))) (e := 9) (Nat.le_of_ble_eq_true rfl) rfl rfl rfl (by decide) (by show (List.map _ _).length = _; rw [List.length_map, List.length_map, List.length_take]; omega) (fun x hx => by obtain ⟨_, _, rfl⟩ := List.mem_map.1 (show x ∈ List.map AV.str _ from hx); rfl) (cells5 rfl rfl (by first | rfl | exact slO_cell _ _ _) (by first | rfl | exact slO_cell _ _ _) rfl)) ?_
   refine Ev.weak (StLe.freezeO (cb := 1016) (i := 3) (b := 1032) (n := j) (c := .aggD ((ns.take j).map fwL)) (e := 23) (Nat.le_of_ble_eq_true rfl) rfl rfl rfl (by decide) (by show (List.map _ _).length = _; rw [List.length_map, List.length_map, List.length_take]; omega) (fun x hx => by obtain ⟨_, _, rfl⟩ := List.mem_map.1 (show x ∈ List.map AV.dsl _ from hx); rfl) (cells5 rfl rfl (by first | rfl | exact slO_cell _ _ _) (by first | rfl | exact slO_cell _ _ _) rfl)) ?_
   refine Ev.weak (StLe.weakB (cb := 1016) (ec := 27) (oc := true) (cs := [.i64 k, .fsl ((us.take 9).map .u32) (us.take 9).length 1, .fsl (((ss.take i).map (List.take 100)).map AV.str) i 1, .fsl (((ns.take j).map fwL).map AV.dsl) j 1, .fsl ((bs.take 9).map .bool) (bs.take 9).length 1]) (cs' := [.i64 k, .fsl ((us.take 9).map .u32) (us.take 9).length 1, .dsl (fwS ss), .fsl ((fwN ns).map AV.dsl) (fwN ns).length 1, .fsl ((bs.take 9).map .bool) (bs.take 9).length 1]) (Nat.le_of_ble_eq_true rfl) rfl rfl (weak5 rfl rfl rfl rfl rfl (fun _ _ h => h) (by rw [congrArg (List.map (List.take 100)) eS]; exact fsl_dsl (by rw [← congrArg (List.map (List.take 100)) eS, List.length_map, List.length_take]; omega)) (by rw [← eN, List.length_map, List.length_take, Nat.min_eq_left hj]; exact fun _ _ h => h) (fun _ _ h => h))) ?_
   show Ev _ _ _ _ _
   refine .region ?_
   refine .q (op_loadRow Tryd.underlying27 rfl (by kernel_rfl) rfl rfl rfl (rfl)) trivial rfl ?_
   refine .w (op_storeRow (by kernel_rfl) rfl rfl rfl rfl rfl (rfl) (rfl)) trivial rfl ?_
   refine .nil ?_
   show Ev _ _ _ _ _
   refine .ret ?_
   show RetOk _ _ _ _ _ _ _
   exact retc1 rfl (.inl rfl) ⟨_, _, _, _, rfl, rfl, rfl, rfl, rfl, Tryd.underlying27, rfl, (by kernel_rfl)⟩ trivial
end Go.Proofs.YtenocbhlbgcnfaaDoor
