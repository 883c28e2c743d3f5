/-
  Texts of this claim.
-/
import Derived.Deep.SlicePairs
import Derived.Test.YticickigndgpcaaDoorGX7A
import Derived.Test.YticickigndgpcaaDoorGL1A
import Derived.Test.YticickigndgpcaaDoorGE2A
import Derived.Test.YticickigndgpcaaDoorGP1A
import Derived.Test.YticickigndgpcaaDoorGE1A
namespace Go.Proofs.YticickigndgpcaaDoor
open Go.RowKit
structure LA where
  k : Int
  T : List UInt8
  A : List UInt8
  o : Int
  n : Int
  hT : T.length ≤ maxLen
  hA : A.length ≤ maxLen
instance : Inhabited LA := ⟨⟨0, [], [], 0, 0, Nat.zero_le _, Nat.zero_le _⟩⟩
def actL (a : LA) : List AV := [.i64 a.k, .str a.T, .str a.A, .i64 a.o, .i64 a.n]
theorem rowsL_part {o i : Nat} {l : List LA} (hi : i < l.length) : ((AV.agg (offC o (rowsC actL l))).list.drop (o + i * 5)).take 5 = actL (l.getD i default) := by
  have hr : l[i]? = some (l.getD i default) := by rw [List.getD_eq_getElem?_getD, List.getElem?_eq_getElem hi]; rfl
  refine List.ext_getElem? fun j => ?_
  rw [List.getElem?_take]
  split
  · rename_i hj
    rw [List.getElem?_drop]
    have h1 := rowsC_nth (f := actL) (z := 5) (fun _ => rfl) hr hj
    cases hv : (actL (l.getD i default))[j]? with
    | none => rw [List.getElem?_eq_none_iff] at hv; exact absurd hj (Nat.not_lt.2 hv)
    | some v =>
      rw [hv] at h1
      have h2 := offC_nth (o := o) h1
      rw [Nat.add_assoc]; exact h2
  · rename_i hj
    rw [List.getElem?_eq_none]; show 5 ≤ j; omega
theorem rowsL_room {o i : Nat} {l : List LA} (hi : i < l.length) : o + i * 5 + 5 ≤ (AV.agg (offC o (rowsC actL l))).len := by
  rw [offC_len, rowsC_len (z := 5) (fun _ => rfl)]; omega
theorem MI0 : MI [] 0 [] := ⟨List.Perm.refl _, List.Pairwise.nil, List.nodup_nil, fun n hn => by simp [mBs] at hn, fun x hx => by simp at hx, Nat.zero_le _⟩
theorem MI1 : MI (putM [] 0 (⟨[116], [97], 1, 0 + 1, tickV 0⟩ : Ls)).1 (putM [] 0 (⟨[116], [97], 1, 0 + 1, tickV 0⟩ : Ls)).2 (insL (⟨[116], [97], 1, 0 + 1, tickV 0⟩ : Ls) false []) := MI0.ins (by decide) (.inr (by decide))
theorem mem1L : (⟨[116], [97], 1, 0 + 1, tickV 0⟩ : Ls) ∈ (insL (⟨[116], [97], 1, 0 + 1, tickV 0⟩ : Ls) false []) := by decide +kernel
theorem MI2 : MI (putM (putM [] 0 (⟨[116], [97], 1, 0 + 1, tickV 0⟩ : Ls)).1 (putM [] 0 (⟨[116], [97], 1, 0 + 1, tickV 0⟩ : Ls)).2 (⟨[116], [97], 2, 0 + 1 + 1, tickV 3⟩ : Ls)).1 (putM (putM [] 0 (⟨[116], [97], 1, 0 + 1, tickV 0⟩ : Ls)).1 (putM [] 0 (⟨[116], [97], 1, 0 + 1, tickV 0⟩ : Ls)).2 (⟨[116], [97], 2, 0 + 1 + 1, tickV 3⟩ : Ls)).2 (insL (⟨[116], [97], 2, 0 + 1 + 1, tickV 3⟩ : Ls) false (insL (⟨[116], [97], 1, 0 + 1, tickV 0⟩ : Ls) false [])) := MI1.ins (by decide) (.inl ⟨_, mem1L, rfl, rfl⟩)
theorem no2L : ∀ x ∈ (insL (⟨[116], [97], 2, 0 + 1 + 1, tickV 3⟩ : Ls) false (insL (⟨[116], [97], 1, 0 + 1, tickV 0⟩ : Ls) false [])), ¬ (x.t = [116] ∧ x.a = [98]) := by decide +kernel
theorem len2L : (insL (⟨[116], [97], 2, 0 + 1 + 1, tickV 3⟩ : Ls) false (insL (⟨[116], [97], 1, 0 + 1, tickV 0⟩ : Ls) false [])).length = 1 := by decide +kernel
theorem eq2L : (⟨[116], [97], 2, 0 + 1 + 1, tickV 3⟩ : Ls) = ⟨[116], [97], 2, 2, 3⟩ := by decide +kernel
set_option maxRecDepth 100000 in
theorem awake20_ev (eo : Nat → Nat × Nat) (hd : ∀ i j, i < 20 → j < 20 → i ≠ j → eo i ≠ eo j) : Meets Tryd.prog 11 [] [(3, some ⟨.agg [.err 155 (1) (offE eo (1))], errT, false⟩), (4, some ⟨.agg [.err 155 (2) (offE eo (2))], errT, false⟩), (5, some ⟨.agg [.err 155 (3) (offE eo (3))], errT, false⟩), (6, some ⟨.agg [.err 155 (4) (offE eo (4))], errT, false⟩), (7, some ⟨.agg [.err 155 (5) (offE eo (5))], errT, false⟩), (8, some ⟨.agg [.err 155 (6) (offE eo (6))], errT, false⟩), (9, some ⟨.agg [.err 155 (7) (offE eo (7))], errT, false⟩), (2, some ⟨.agg [.err 155 (8) (offE eo (8))], errT, false⟩), (1, some ⟨.agg [.err 155 (9) (offE eo (9))], errT, false⟩), (10, some ⟨.agg [.err 155 (10) (offE eo (10))], errT, false⟩), (11, some ⟨.agg [.err 155 (11) (offE eo (11))], errT, false⟩), (12, some ⟨.agg [.err 155 (12) (offE eo (12))], errT, false⟩), (13, some ⟨.agg [.err 155 (13) (offE eo (13))], errT, false⟩), (14, some ⟨.agg [.err 155 (14) (offE eo (14))], errT, false⟩), (15, some ⟨.agg [.err 155 (15) (offE eo (15))], errT, false⟩), (16, some ⟨.agg [.err 155 (16) (offE eo (16))], errT, false⟩), (0, some ⟨.agg [.err 155 (17) (offE eo (17))], errT, false⟩), (17, some ⟨.agg [.err 155 (18) (offE eo (18))], errT, false⟩), (18, some ⟨.agg [.err 155 (19) (offE eo (19))], errT, false⟩), (19, some ⟨.agg [.err 155 (20) (offE eo (20))], errT, false⟩), (401, some ⟨.agg [], errT, false⟩), (402, some ⟨.agg [], errT, false⟩), (403, some ⟨.agg [], errT, false⟩), (404, some ⟨.agg [], errT, false⟩), (405, some ⟨.agg [], errT, false⟩), (406, some ⟨.agg [], errT, false⟩), (407, some ⟨.agg [], errT, false⟩), (408, some ⟨.agg [], errT, false⟩), (409, some ⟨.agg [], errT, false⟩), (410, some ⟨.agg [], errT, false⟩), (411, some ⟨.agg [], errT, false⟩), (412, some ⟨.agg [], errT, false⟩), (413, some ⟨.agg [], errT, false⟩), (414, some ⟨.agg [], errT, false⟩), (415, some ⟨.agg [], errT, false⟩), (416, some ⟨.agg [], errT, false⟩), (417, some ⟨.agg [], errT, false⟩), (418, some ⟨.agg [], errT, false⟩), (419, some ⟨.agg [], errT, false⟩), (420, some ⟨.agg [], errT, false⟩)] (.bool true) [] := by
 refine meets_of_ev (nt := 61) Tryd.func11 rfl rfl (Nat.le_of_ble_eq_true rfl) ?_
 refine .seq ?_
 refine .region ?_
 refine .q (op_assign rfl) trivial rfl ?_
 refine .nil ?_
 show Ev _ _ _ _ _
 refine .seq ?_
 refine .region ?_
 refine .q (op_buildS (r := .agg _) Tryd.underlying26 rfl zero26 rel_zero26 rfl rfl rfl rfl) trivial rfl ?_
 refine .a (op_call (U := [(1000, some ⟨.agg [.i64 (min (max 2 0) 64), .i64 (min (max 4 0) 4096), .i64 (min (max 5 1) 1073741824), .mp 1001, .i64 0], 68, true⟩), (1001, some ⟨mpV [] 0, 0, true⟩)]) [] [(1000, 1024), (1001, 1016)] (new_ev 2 4 5) Tryd.func12 (by kernel_rfl) rfl rfl rfl (⟨⟨_, rfl, rfl, rfl⟩, trivial⟩) (trivial) (⟨⟨1024, _, rfl, rfl, rfl, rfl, .inl rfl⟩, ⟨1016, _, rfl, rfl, rfl, rfl, .inl rfl⟩, trivial⟩) (trivial) rfl) trivial rfl ?_
 refine .q (op_assign rfl) trivial rfl ?_
 refine .nil ?_
 show Ev _ _ _ _ _
 refine .seq ?_
 refine .seq ?_
 refine .region ?_
 refine .q (op_move rfl) trivial rfl ?_
 refine .q (op_eqPtrNil Tryd.underlying28 rfl rfl rfl) trivial rfl ?_
 refine .nil ?_
 show Ev _ _ _ _ _
 refine .cond_false rfl (rfl) ?_
 refine .skip ?_
 show Ev _ _ _ _ _
 refine .seq ?_
 refine .region ?_
 refine .q (op_move rfl) trivial rfl ?_
 refine .a (op_call (U := [(1000, some ⟨.agg [.i64 (min (max 2 0) 64), .i64 (min (max 4 0) 4096), .i64 (min (max 5 1) 1073741824), .mp 1001, .i64 (0 + 1)], 68, true⟩), (1001, some ⟨mpV (putM [] 0 (⟨[116], [97], 1, 0 + 1, tickV 0⟩ : Ls)).1 (putM [] 0 (⟨[116], [97], 1, 0 + 1, tickV 0⟩ : Ls)).2, 0, true⟩)]) [(500, 1000), (501, 1001)] [] (takeI_ev (min (max 2 0) 64) (min (max 4 0) 4096) (min (max 5 1) 1073741824) 0 MI0 (t := [116]) (al := [97]) (fun x hx => by simp at hx) 1 0 (by decide) (by decide) eo (by decide) (by decide) (by decide)) Tryd.func19 (by kernel_rfl) rfl rfl rfl (⟨⟨_, rfl, rfl, rfl⟩, ⟨_, rfl, rfl, rfl⟩, ⟨_, rfl, rfl, rfl⟩, ⟨_, rfl, rfl, rfl⟩, ⟨_, rfl, rfl, rfl⟩, trivial⟩) (⟨⟨_, _, rfl, rfl, rfl, rfl, id, rfl⟩, ⟨_, _, rfl, rfl, rfl, rfl, id, rfl⟩, ⟨_, _, rfl, rfl, rfl, rfl, (fun h => by cases h), rfl⟩, trivial⟩) (⟨⟨500, _, rfl, rfl, rfl, rfl, .inr ⟨rfl, _, rfl, rfl⟩⟩, ⟨501, _, rfl, rfl, rfl, rfl, .inr ⟨rfl, _, rfl, rfl⟩⟩, trivial⟩) (⟨(fun _ => ⟨1000, _, rfl, rfl⟩), (fun _ => ⟨1001, _, rfl, rfl⟩), (fun h => by cases h), trivial⟩) rfl) trivial rfl ?_
 refine .q (op_move rfl) trivial rfl ?_
 refine .q (op_extract rfl rfl) trivial rfl ?_
 refine .q (op_extract rfl rfl) trivial rfl ?_
 refine .q (op_extract rfl rfl) trivial rfl ?_
 refine .a (op_allocRow zero45 rel_zero45 rfl) trivial rfl ?_
 refine .w (op_storeRow (by kernel_rfl) rfl rfl rfl rfl rfl (rfl) (rfl)) trivial rfl ?_
 refine .q (op_assign rfl) trivial rfl ?_
 refine .q (op_assign rfl) trivial rfl ?_
 refine .nil ?_
 show Ev _ _ _ _ _
 refine .seq ?_
 refine .region ?_
 refine .q (op_move rfl) trivial rfl ?_
 refine .a (op_call (U := [(1000, some ⟨.agg [.i64 (min (max 2 0) 64), .i64 (min (max 4 0) 4096), .i64 (min (max 5 1) 1073741824), .mp 1001, .i64 (0 + 1 + 1)], 68, true⟩), (1001, some ⟨mpV (putM (putM [] 0 (⟨[116], [97], 1, 0 + 1, tickV 0⟩ : Ls)).1 (putM [] 0 (⟨[116], [97], 1, 0 + 1, tickV 0⟩ : Ls)).2 (⟨[116], [97], 2, 0 + 1 + 1, tickV 3⟩ : Ls)).1 (putM (putM [] 0 (⟨[116], [97], 1, 0 + 1, tickV 0⟩ : Ls)).1 (putM [] 0 (⟨[116], [97], 1, 0 + 1, tickV 0⟩ : Ls)).2 (⟨[116], [97], 2, 0 + 1 + 1, tickV 3⟩ : Ls)).2, 0, true⟩)]) [(500, 1000), (501, 1001)] [] (takeO_ev (min (max 2 0) 64) (min (max 4 0) 4096) (min (max 5 1) 1073741824) (0 + 1) MI1 mem1L 2 3 (by decide) (by decide) (by decide) (by decide)) Tryd.func19 (by kernel_rfl) rfl rfl rfl (⟨⟨_, rfl, rfl, rfl⟩, ⟨_, rfl, rfl, rfl⟩, ⟨_, rfl, rfl, rfl⟩, ⟨_, rfl, rfl, rfl⟩, ⟨_, rfl, rfl, rfl⟩, trivial⟩) (⟨⟨_, _, rfl, rfl, rfl, rfl, id, rfl⟩, ⟨_, _, rfl, rfl, rfl, rfl, id, rfl⟩, trivial⟩) (⟨⟨500, _, rfl, rfl, rfl, rfl, .inr ⟨rfl, _, rfl, rfl⟩⟩, ⟨501, _, rfl, rfl, rfl, rfl, .inr ⟨rfl, _, rfl, rfl⟩⟩, trivial⟩) (⟨(fun _ => ⟨1000, _, rfl, rfl⟩), (fun _ => ⟨1001, _, rfl, rfl⟩), trivial⟩) rfl) trivial rfl ?_
 refine .q (op_move rfl) trivial rfl ?_
 refine .q (op_extract rfl rfl) trivial rfl ?_
 refine .q (op_extract rfl rfl) trivial rfl ?_
 refine .q (op_extract rfl rfl) trivial rfl ?_
 refine .a (op_allocRow zero45 rel_zero45 rfl) trivial rfl ?_
 refine .w (op_storeRow (by kernel_rfl) rfl rfl rfl rfl rfl (rfl) (rfl)) trivial rfl ?_
 refine .q (op_assign rfl) trivial rfl ?_
 refine .q (op_assign rfl) trivial rfl ?_
 refine .nil ?_
 show Ev _ _ _ _ _
 refine .seq ?_
 refine .region ?_
 refine .q (op_move rfl) trivial rfl ?_
 refine .q (op_call (U := []) [(500, 1000), (501, 1001)] [] (findN_ev (min (max 2 0) 64) (min (max 4 0) 4096) (min (max 5 1) 1073741824) (0 + 1 + 1) MI2 (t := [116]) (al := [98]) (by unfold maxLen; decide) (by unfold maxLen; decide) no2L eo) Tryd.func20 (by kernel_rfl) rfl rfl rfl (⟨⟨_, rfl, rfl, rfl⟩, ⟨_, rfl, rfl, rfl⟩, ⟨_, rfl, rfl, rfl⟩, trivial⟩) (⟨⟨_, _, rfl, rfl, rfl, rfl, (fun h => by cases h), rfl⟩, ⟨_, _, rfl, rfl, rfl, rfl, (fun h => by cases h), rfl⟩, ⟨_, _, rfl, rfl, rfl, rfl, (fun h => by cases h), rfl⟩, trivial⟩) (trivial) (⟨(fun h => by cases h), (fun h => by cases h), (fun h => by cases h), trivial⟩) rfl) trivial rfl ?_
 refine .q (op_move rfl) trivial rfl ?_
 refine .q (op_extract rfl rfl) trivial rfl ?_
 refine .q (op_extract rfl rfl) trivial rfl ?_
 refine .a (op_allocRow zero45 rel_zero45 rfl) trivial rfl ?_
 refine .w (op_storeRow (by kernel_rfl) rfl rfl rfl rfl rfl (rfl) (rfl)) trivial rfl ?_
 refine .q (op_assign rfl) trivial rfl ?_
 refine .nil ?_
 show Ev _ _ _ _ _
 refine .seq ?_
 refine .region ?_
 refine .q (op_move rfl) trivial rfl ?_
 refine .q (op_cmpI rfl rfl rfl) trivial rfl ?_
 refine .q (op_move rfl) trivial rfl ?_
 refine .know (b' := true) (by decide) ?_
 refine .q (op_move rfl) ⟨_, rfl, rfl⟩ rfl ?_
 refine .asR (.err 155 0 (0, 0)) (nil_err _ _) ?_
 refine .q (op_eqErrNil (e := 0) Tryd.underlying47 rfl rfl) ⟨_, rfl, rfl⟩ rfl ?_
 refine .q (op_pick_true rfl rfl rfl) trivial rfl ?_
 refine .q (op_move rfl) trivial rfl ?_
 refine .know (b' := true) (by decide) ?_
 refine .q (op_move rfl) ⟨_, rfl, rfl⟩ rfl ?_
 refine .q (op_cmpI rfl rfl rfl) ⟨_, rfl, rfl⟩ rfl ?_
 refine .q (op_pick_true rfl rfl rfl) trivial rfl ?_
 refine .q (op_move rfl) trivial rfl ?_
 refine .know (b' := true) (by decide) ?_
 refine .q (op_move rfl) ⟨_, rfl, rfl⟩ rfl ?_
 refine .asR (.err 155 0 (0, 0)) (nil_err _ _) ?_
 refine .q (op_eqErrNil (e := 0) Tryd.underlying47 rfl rfl) ⟨_, rfl, rfl⟩ rfl ?_
 refine .q (op_pick_true rfl rfl rfl) trivial rfl ?_
 refine .q (op_move rfl) trivial rfl ?_
 refine .know (b' := true) (by decide) ?_
 refine .q (op_loadRow Tryd.underlying45 rfl (by kernel_rfl) rfl rfl rfl (rfl)) ⟨_, rfl, rfl⟩ rfl ?_
 refine .as (lsV (⟨[116], [97], 2, 2, 3⟩ : Ls)) (show lsV (⟨[116], [97], 2, 0 + 1 + 1, tickV 3⟩ : Ls) = _ by rw [eq2L]) ?_
 refine .q (op_buildS (r := .agg _) Tryd.underlying45 rfl zero45 rel_zero45 rfl rfl rfl rfl) ⟨_, rfl, rfl⟩ rfl ?_
 refine .q (op_eqlLsP (p := (⟨[116], [97], 2, 2, 3⟩ : Ls)) (q := (⟨[116], [97], 2, 2, 3⟩ : Ls)) rfl rfl) ⟨_, rfl, rfl⟩ rfl ?_
 refine .as (.bool true) (congrArg AV.bool (decide_eq_true rfl)) ?_
 refine .q (op_pick_true rfl rfl rfl) trivial rfl ?_
 refine .q (op_move rfl) trivial rfl ?_
 refine .know (b' := true) (by decide) ?_
 refine .q (op_move rfl) ⟨_, rfl, rfl⟩ rfl ?_
 refine .q (op_call (U := []) [] [] (code_8 eo hd) Tryd.func25 (by kernel_rfl) rfl rfl rfl (⟨⟨_, rfl, rfl, rfl⟩, trivial⟩) (⟨⟨_, _, rfl, rfl, rfl, rfl, (fun h => by cases h), rfl⟩, ⟨_, _, rfl, rfl, rfl, rfl, (fun h => by cases h), rfl⟩, ⟨_, _, rfl, rfl, rfl, rfl, (fun h => by cases h), rfl⟩, ⟨_, _, rfl, rfl, rfl, rfl, (fun h => by cases h), rfl⟩, ⟨_, _, rfl, rfl, rfl, rfl, (fun h => by cases h), rfl⟩, ⟨_, _, rfl, rfl, rfl, rfl, (fun h => by cases h), rfl⟩, ⟨_, _, rfl, rfl, rfl, rfl, (fun h => by cases h), rfl⟩, ⟨_, _, rfl, rfl, rfl, rfl, (fun h => by cases h), rfl⟩, ⟨_, _, rfl, rfl, rfl, rfl, (fun h => by cases h), rfl⟩, ⟨_, _, rfl, rfl, rfl, rfl, (fun h => by cases h), rfl⟩, ⟨_, _, rfl, rfl, rfl, rfl, (fun h => by cases h), rfl⟩, ⟨_, _, rfl, rfl, rfl, rfl, (fun h => by cases h), rfl⟩, ⟨_, _, rfl, rfl, rfl, rfl, (fun h => by cases h), rfl⟩, ⟨_, _, rfl, rfl, rfl, rfl, (fun h => by cases h), rfl⟩, ⟨_, _, rfl, rfl, rfl, rfl, (fun h => by cases h), rfl⟩, ⟨_, _, rfl, rfl, rfl, rfl, (fun h => by cases h), rfl⟩, ⟨_, _, rfl, rfl, rfl, rfl, (fun h => by cases h), rfl⟩, ⟨_, _, rfl, rfl, rfl, rfl, (fun h => by cases h), rfl⟩, ⟨_, _, rfl, rfl, rfl, rfl, (fun h => by cases h), rfl⟩, ⟨_, _, rfl, rfl, rfl, rfl, (fun h => by cases h), rfl⟩, ⟨_, _, rfl, rfl, rfl, rfl, (fun h => by cases h), rfl⟩, ⟨_, _, rfl, rfl, rfl, rfl, (fun h => by cases h), rfl⟩, ⟨_, _, rfl, rfl, rfl, rfl, (fun h => by cases h), rfl⟩, ⟨_, _, rfl, rfl, rfl, rfl, (fun h => by cases h), rfl⟩, ⟨_, _, rfl, rfl, rfl, rfl, (fun h => by cases h), rfl⟩, ⟨_, _, rfl, rfl, rfl, rfl, (fun h => by cases h), rfl⟩, ⟨_, _, rfl, rfl, rfl, rfl, (fun h => by cases h), rfl⟩, ⟨_, _, rfl, rfl, rfl, rfl, (fun h => by cases h), rfl⟩, ⟨_, _, rfl, rfl, rfl, rfl, (fun h => by cases h), rfl⟩, ⟨_, _, rfl, rfl, rfl, rfl, (fun h => by cases h), rfl⟩, ⟨_, _, rfl, rfl, rfl, rfl, (fun h => by cases h), rfl⟩, ⟨_, _, rfl, rfl, rfl, rfl, (fun h => by cases h), rfl⟩, ⟨_, _, rfl, rfl, rfl, rfl, (fun h => by cases h), rfl⟩, ⟨_, _, rfl, rfl, rfl, rfl, (fun h => by cases h), rfl⟩, ⟨_, _, rfl, rfl, rfl, rfl, (fun h => by cases h), rfl⟩, ⟨_, _, rfl, rfl, rfl, rfl, (fun h => by cases h), rfl⟩, ⟨_, _, rfl, rfl, rfl, rfl, (fun h => by cases h), rfl⟩, ⟨_, _, rfl, rfl, rfl, rfl, (fun h => by cases h), rfl⟩, ⟨_, _, rfl, rfl, rfl, rfl, (fun h => by cases h), rfl⟩, ⟨_, _, rfl, rfl, rfl, rfl, (fun h => by cases h), rfl⟩, trivial⟩) (trivial) (⟨(fun h => by cases h), (fun h => by cases h), (fun h => by cases h), (fun h => by cases h), (fun h => by cases h), (fun h => by cases h), (fun h => by cases h), (fun h => by cases h), (fun h => by cases h), (fun h => by cases h), (fun h => by cases h), (fun h => by cases h), (fun h => by cases h), (fun h => by cases h), (fun h => by cases h), (fun h => by cases h), (fun h => by cases h), (fun h => by cases h), (fun h => by cases h), (fun h => by cases h), (fun h => by cases h), (fun h => by cases h), (fun h => by cases h), (fun h => by cases h), (fun h => by cases h), (fun h => by cases h), (fun h => by cases h), (fun h => by cases h), (fun h => by cases h), (fun h => by cases h), (fun h => by cases h), (fun h => by cases h), (fun h => by cases h), (fun h => by cases h), (fun h => by cases h), (fun h => by cases h), (fun h => by cases h), (fun h => by cases h), (fun h => by cases h), (fun h => by cases h), trivial⟩) rfl) ⟨_, rfl, rfl⟩ rfl ?_
 refine .q (op_cmpI rfl rfl rfl) ⟨_, rfl, rfl⟩ rfl ?_
 refine .q (op_pick_true rfl rfl rfl) trivial rfl ?_
 refine .q (op_move rfl) trivial rfl ?_
 refine .know (b' := true) (by decide) ?_
 refine .q (op_move rfl) ⟨_, rfl, rfl⟩ rfl ?_
 refine .q (op_call (U := []) [(500, 1000), (501, 1001)] [] (all_ev (min (max 2 0) 64) (min (max 4 0) 4096) (min (max 5 1) 1073741824) (0 + 1 + 1) MI2) Tryd.func16 (by kernel_rfl) rfl rfl rfl (⟨⟨_, rfl, rfl, rfl⟩, trivial⟩) (⟨⟨_, _, rfl, rfl, rfl, rfl, (fun h => by cases h), rfl⟩, ⟨_, _, rfl, rfl, rfl, rfl, (fun h => by cases h), rfl⟩, trivial⟩) (trivial) (⟨(fun h => by cases h), (fun h => by cases h), trivial⟩) rfl) ⟨_, rfl, rfl⟩ rfl ?_
 refine .q (op_len_fsl Tryd.underlying39 rfl) ⟨_, rfl, rfl⟩ rfl ?_
 refine .as (.i64 1) (show AV.i64 (((insL (⟨[116], [97], 2, 0 + 1 + 1, tickV 3⟩ : Ls) false (insL (⟨[116], [97], 1, 0 + 1, tickV 0⟩ : Ls) false [])).length : Nat) : Int) = _ by rw [len2L]; rfl) ?_
 refine .q (op_cmpI rfl rfl rfl) ⟨_, rfl, rfl⟩ rfl ?_
 refine .q (op_pick_true rfl rfl rfl) trivial rfl ?_
 refine .q (op_assign rfl) trivial rfl ?_
 refine .nil ?_
 show Ev _ _ _ _ _
 refine .ret ?_
 show RetOk _ _ _ _ _ _ _
 exact ret1v rfl (.inl rfl) rfl (rfl) trivial
end Go.Proofs.YticickigndgpcaaDoor
namespace Go.Proofs.YticickigndgpcaaDoor
open Go.ChangeShapes Go.WideShapes Go.ChangeAt Go.RowKit
theorem actl_arg {H : Type} {enc : TypeId × Value → H} {P : Program} {W : World} {eo : Nat → Nat × Nat} {t e ti ts : TypeId} {f0 f1 f2 f3 f4 : Field} {v : Value} {d : DataW H} {ps : List MemPlace} (ht : P.underlying t = some (.slice e)) (he : P.underlying e = some (.struct #[f0, f1, f2, f3, f4])) (ce : P.cellsOf e = 5)
    (o0 : f0.offset = 0) (o1 : f1.offset = 1) (o2 : f2.offset = 2) (o3 : f3.offset = 3) (o4 : f4.offset = 4) (t0 : f0.type = ti) (t1 : f1.type = ts) (t2 : f2.type = ts) (t3 : f3.type = ti) (t4 : f4.type = ti) (hi : P.underlying ti = some (.int .i64)) (hs : P.underlying ts = some .string) (ci : P.cellsOf ti = 1) (cs_ : P.cellsOf ts = 1) {b0 : Nat} (hv : Value.okWide P W .any b0 t v)
    (h : DataW.Trod enc P W 0 (fun _ => true) true t v d ps) (hblk : ∃ (b : Nat) (arr : Array Value) (t : TypeId) (fz : Nat × Nat), W.heap[b]? = some (.cells arr t fz)) :
    ∃ (l : List LA) (b o : Nat), l.length ≤ maxLen ∧ Rel (argE W eo b) (.sl 450 o l.length 5) v ∧ BAt (argE W eo b) ⟨.agg (offC o (rowsC actL l)), anyT, false⟩ W b (sizeAt W b) := by
  refine slice_arg actL (fun _ => rfl) (by decide) ht ce hv (fun n cs' y hl hy => ?_) h hblk
  match cs', hl with
  | [w0, w1, w2, w3, w4], _ =>
    obtain ⟨xs, m, _, _, _, hxl, hf⟩ := DataW.trod_struct he hy
    have hxl' : xs.length = 5 := hxl
    have q0 := hf 0 f0 rfl
    have q1 := hf 1 f1 rfl
    have q2 := hf 2 f2 rfl
    have q3 := hf 3 f3 rfl
    have q4 := hf 4 f4 rfl
    rw [List.getElem?_eq_getElem (by omega)] at q0 q1 q2 q3 q4
    simp only [t0, o0, ci, t1, o1, t2, o2, t3, o3, t4, o4, cs_, List.drop_zero, List.take_succ_cons, List.take_zero, List.drop_succ_cons, List.take_nil] at q0 q1 q2 q3 q4
    obtain ⟨k, k0, _, _⟩ := DataW.trod_int hi q0
    obtain ⟨s, k1, _, z1⟩ := DataW.trod_string hs q1
    obtain ⟨u, k2, _, z2⟩ := DataW.trod_string hs q2
    obtain ⟨m3, k3, _, _⟩ := DataW.trod_int hi q3
    obtain ⟨m4, k4, _, _⟩ := DataW.trod_int hi q4
    simp only [List.cons.injEq, and_true] at k0 k1 k2 k3 k4
    refine ⟨⟨k, s.data.toList, u.data.toList, m3, m4, z1, z2⟩, fun j x hx => ?_⟩
    match j, hx with
    | 0, hx => simp only [actL, List.getElem?_cons_zero, Option.some.injEq] at hx; subst hx; exact ⟨rfl, w0, rfl, fun E => by rw [k0]; exact .i64 _⟩
    | 1, hx => simp only [actL, List.getElem?_cons_succ, List.getElem?_cons_zero, Option.some.injEq] at hx; subst hx; exact ⟨rfl, w1, rfl, fun E => by rw [k1]; exact .str _⟩
    | 2, hx => simp only [actL, List.getElem?_cons_succ, List.getElem?_cons_zero, Option.some.injEq] at hx; subst hx; exact ⟨rfl, w2, rfl, fun E => by rw [k2]; exact .str _⟩
    | 3, hx => simp only [actL, List.getElem?_cons_succ, List.getElem?_cons_zero, Option.some.injEq] at hx; subst hx; exact ⟨rfl, w3, rfl, fun E => by rw [k3]; exact .i64 _⟩
    | 4, hx => simp only [actL, List.getElem?_cons_succ, List.getElem?_cons_zero, Option.some.injEq] at hx; subst hx; exact ⟨rfl, w4, rfl, fun E => by rw [k4]; exact .i64 _⟩
    | j + 5, hx => simp [actL] at hx
end Go.Proofs.YticickigndgpcaaDoor
