/-
  Texts of this claim.
-/
import Derived.Test.YtpmoonglbcglaaaDoorGWE
import Derived.Test.YtpmoonglbcglaaaDoorGW5
namespace Go.Proofs.YtpmoonglbcglaaaDoor
open Go.RowKit
set_option maxRecDepth 100000 in
theorem cut_ev (s : List UInt8) (n : Nat) (hs : s.length ≤ maxLen) (hn : n ≤ 1000) : Meets Tryd.prog 8 [.str s, .i64 n] [] (.str (s.take n)) [] := by
 refine meets_of_ev (nt := 13) Tryd.func8 rfl rfl (Nat.le_of_ble_eq_true rfl) ?_
 refine .seq ?_
 refine .region ?_
 refine .q (op_assign rfl) trivial rfl ?_
 refine .nil ?_
 show Ev _ _ _ _ _
 refine .seq ?_
 refine .seq ?_
 refine .region ?_
 refine .q (op_move rfl) trivial rfl ?_
 refine .q (op_len_str Tryd.underlying9 rfl) trivial rfl ?_
 refine .q (op_move rfl) trivial rfl ?_
 refine .q (op_cmpI rfl rfl rfl) trivial rfl ?_
 refine .nil ?_
 show Ev _ _ _ _ _
 refine .cond rfl (fun hc8 => ?_) (fun hc8 => ?_)
 ·simp only [decide_eq_true_eq, decide_eq_false_iff_not, beq_iff_eq, bne_iff_ne, ne_eq, beq_eq_false_iff_ne, bne_eq_false_iff_eq] at hc8
  refine .seq ?_
  refine .region ?_
  refine .q (op_move rfl) trivial rfl ?_
  refine .q (op_move rfl) trivial rfl ?_
  refine .q (ap_slice_str_hi Tryd.underlying9 rfl (bnd_some rfl rfl) (by first | omega | (simp only [AV.len]; omega) | (simp only [AV.len, List.length_set]; omega) | assumption | (simp [AV.len]; done))) trivial rfl ?_
  refine .q (op_assign rfl) trivial rfl ?_
  refine .nil ?_
  show Ev _ _ _ _ _
  refine .ret ?_
  show RetOk _ _ _ _ _ _ _
  first
   | exact ret1v rfl (.inl rfl) rfl (congrArg AV.str (by first | rfl | (rw [List.take_of_length_le (by omega)]))) trivial
   | exact ret1v rfl (.inl rfl) rfl rfl trivial
 ·simp only [decide_eq_true_eq, decide_eq_false_iff_not, beq_iff_eq, bne_iff_ne, ne_eq, beq_eq_false_iff_ne, bne_eq_false_iff_eq] at hc8
  refine .skip ?_
  show Ev _ _ _ _ _
  refine .seq ?_
  refine .region ?_
  refine .q (op_move rfl) trivial rfl ?_
  refine .q (op_assign rfl) trivial rfl ?_
  refine .nil ?_
  show Ev _ _ _ _ _
  refine .ret ?_
  show RetOk _ _ _ _ _ _ _
  first
   | exact ret1v rfl (.inl rfl) rfl (congrArg AV.str (by first | rfl | (rw [List.take_of_length_le (by omega)]))) trivial
   | exact ret1v rfl (.inl rfl) rfl rfl trivial
end Go.Proofs.YtpmoonglbcglaaaDoor
namespace Go.Proofs.YtpmoonglbcglaaaDoor
open Go.RowKit
/-- What is not known, then the cells. -/
def offC (o : Nat) (cs : List AV) : List AV := List.replicate o .hole ++ cs
/-- A cell that names no block. -/
def AV.flatV : AV → Bool
  | .u8 _ | .u32 _ | .u64 _ | .i64 _ | .bool _ | .str _ | .hole | .dsl _ => true
  | _ => false
theorem flat_ren {x : AV} (h : x.flatV = true) (f : Nat → Nat) : x.ren f = x := by cases x <;> first | rfl | cases h
theorem flat_names {x : AV} (h : x.flatV = true) : x.names = [] := by cases x <;> first | rfl | cases h
theorem offC_len (o : Nat) (cs : List AV) : (AV.agg (offC o cs)).len = o + cs.length := by
  show (offC o cs).length = _
  unfold offC
  rw [List.length_append, List.length_replicate]
theorem offC_flat {o : Nat} {cs : List AV} (h : cs.all AV.flatV = true) : (offC o cs).all AV.flatV = true := by
  unfold offC
  rw [List.all_append, h, Bool.and_true]
  exact List.all_eq_true.2 fun x hx => by rw [List.eq_of_mem_replicate hx]; rfl
theorem flat_list {l : List AV} (h : l.all AV.flatV = true) : (∀ f, AV.renL f l = l) ∧ AV.namesL l = [] := by
  induction l with
  | nil => exact ⟨fun _ => rfl, rfl⟩
  | cons x l ih =>
    rw [List.all_cons, Bool.and_eq_true] at h
    obtain ⟨h1, h2⟩ := ih h.2
    exact ⟨fun f => by show x.ren f :: AV.renL f l = _; rw [h1 f, flat_ren h.1], by show x.names ++ AV.namesL l = _; rw [h2, flat_names h.1]; rfl⟩
theorem offC_ren (f : Nat → Nat) (o : Nat) {cs : List AV} (h : cs.all AV.flatV = true) : (AV.agg (offC o cs)).ren f = AV.agg (offC o cs) := by
  show AV.agg (AV.renL f (offC o cs)) = _
  rw [(flat_list (offC_flat h)).1 f]
theorem offC_nm (L : List (Nat × Nat)) (o : Nat) {cs : List AV} (h : cs.all AV.flatV = true) : nmOk L (AV.agg (offC o cs)).names = true := by
  show nmOk L (AV.namesL (offC o cs)) = true
  rw [(flat_list (offC_flat h)).2]; rfl
/-- Rows of the elements of a list, one behind the other. -/
def rowsC {α : Type} (f : α → List AV) (l : List α) : List AV := l.flatMap f
section
variable {α : Type} {f : α → List AV} {z : Nat}
theorem rowsC_len (hz : ∀ a, (f a).length = z) (l : List α) : (rowsC f l).length = l.length * z := by
  induction l with
  | nil => simp [rowsC]
  | cons a l ih =>
    show (f a ++ rowsC f l).length = _
    rw [List.length_append, hz, ih, List.length_cons, Nat.add_mul]; omega
theorem rowsC_nth (hz : ∀ a, (f a).length = z) {l : List α} {i : Nat} {a : α} (hi : l[i]? = some a) {k : Nat} (hk : k < z) : (rowsC f l)[i * z + k]? = (f a)[k]? := by
  induction l generalizing i with
  | nil => simp at hi
  | cons b l ih =>
    show (f b ++ rowsC f l)[i * z + k]? = _
    cases i with
    | zero =>
      simp only [List.getElem?_cons_zero, Option.some.injEq] at hi
      subst hi
      rw [List.getElem?_append_left (by rw [hz]; omega), Nat.zero_mul, Nat.zero_add]
    | succ i =>
      rw [List.getElem?_cons_succ] at hi
      rw [List.getElem?_append_right (by rw [hz, Nat.add_mul]; omega), hz, show (i + 1) * z + k - z = i * z + k by rw [Nat.add_mul]; omega]
      exact ih hi
theorem rowsC_flat (h : ∀ a, (f a).all AV.flatV = true) (l : List α) : (rowsC f l).all AV.flatV = true := by
  induction l with
  | nil => rfl
  | cons a l ih =>
    show (f a ++ rowsC f l).all AV.flatV = true
    rw [List.all_append, h, ih]; rfl
/-- Some cells of an element's row. -/
theorem rows_part {o : Nat} (hz : ∀ a, (f a).length = z) {l : List α} {i : Nat} {a : α} (hi : l[i]? = some a) {k m : Nat} (hk : k + m ≤ z) : ((AV.agg (offC o (rowsC f l))).list.drop (o + i * z + k)).take m = ((f a).drop k).take m := by
  refine List.ext_getElem? fun j => ?_
  rw [List.getElem?_take, List.getElem?_take]
  by_cases hj : j < m
  · rw [if_pos hj, if_pos hj, List.getElem?_drop, List.getElem?_drop]
    show (offC o (rowsC f l))[_]? = _
    unfold offC
    rw [List.getElem?_append_right (by rw [List.length_replicate]; omega), List.length_replicate, show o + i * z + k + j - o = i * z + (k + j) by omega]
    exact rowsC_nth hz hi (by omega)
  · rw [if_neg hj, if_neg hj]
end
theorem get_i {α : Type} {l : List α} {i : Nat} (d : α) (h : i < l.length) : l[i]? = some (l.getD i d) := by
  rw [List.getD_eq_getElem?_getD, List.getElem?_eq_getElem h]; rfl
end Go.Proofs.YtpmoonglbcglaaaDoor
namespace Go.Proofs.YtpmoonglbcglaaaDoor
open Go.RowKit
theorem p8 {F : Hp} {L : List (Nat × Nat)} {c : Nat} {k : ABlk} (h1 : src L c = some c := by rfl) (h2 : F c = some k := by rfl) (h3 : k.c.ren (back L) = k.c := by rfl) (h4 : nmOk L k.c.names = true := by rfl) : ∃ b k2, src L c = some b ∧ F b = some k2 ∧ k2.c.ren (back L) = k.c ∧ ElemLe k2 k ∧ (k.own = true → k2.own = true) ∧ nmOk L k2.c.names = true := ⟨c, k, h1, h2, h3, rfl, id, h4⟩
theorem q8 {F : Hp} {L : List (Nat × Nat)} {c : Nat} {k : ABlk} (h1 : srcC L c = some c := by rfl) (h2 : F c = some k := by rfl) (h3 : k.c.ren (backC L) = k.c := by rfl) (h4 : nmOkC L k.c.names = true := by rfl) : ∃ b k2, srcC L c = some b ∧ F b = some k2 ∧ k2.c.ren (backC L) = k.c ∧ ElemLe k2 k ∧ (k.own = true → k2.own = true) ∧ nmOkC L k2.c.names = true := ⟨c, k, h1, h2, h3, rfl, id, h4⟩
theorem c8 {k : ABlk} {Q : Prop} (h : k.own = false := by rfl) : k.own = true → Q := fun h2 => by rw [h] at h2; cases h2
theorem rowW_uo {L N : List (Nat × Nat)} {most : Int} {dn : Bool} {b0 b1 c0 c1 t : Nat} {x y : Option BX} (h0 : fwd L N c0 = b0) (h1 : fwd L N c1 = b1) : (⟨rowW most dn b0 b1 x y, t, true⟩ : ABlk) = ⟨(rowW most dn c0 c1 x y).ren (fwd L N), t, true⟩ := by
  rw [rowW_ren, h0, h1]
theorem Cov.ob {L : List (Nat × Nat)} {U : List (Nat × Option ABlk)} {c : Nat} {x : Option BX} {r : List (Nat × Option ABlk)} (hr : Cov L U r) : Cov L U ((c, bK false x) :: r) := by
  cases x with
  | none => exact hr
  | some x => exact ⟨fun h => (by cases h), hr⟩
theorem Ev.monoQ {P : Program} {nt : Nat} {c : Code} {st : St} {post post' : Exit → St → Prop} (h : Ev P nt c st post) (hp : ∀ e st', post e st' → post' e st') : Ev P nt c st post' :=
  fun E S n0 a w hn hR => wp_mono (h E S n0 a w hn hR) fun _ _ _ ⟨st', E', h1, h2⟩ => ⟨st', E', ⟨h1.1, hp _ _ h1.2⟩, h2⟩
theorem Ev.cutp {P : Program} {nt : Nat} {c y : Code} {st : St} {post : Exit → St → Prop} {ι : Type} (S : ι → St) (h1 : Ev P nt c st (thenA (fun st' => ∃ i, StLe nt st' (S i)) post)) (h2 : ∀ i, Ev P nt y (S i) post) : Ev P nt c st (thenA (fun st' => Ev P nt y st' post) post) :=
  h1.monoQ fun e st' h => by
    cases e with
    | normal => obtain ⟨i, hi⟩ := h; exact Ev.weak hi (h2 i)
    | _ => exact h
set_option maxRecDepth 100000 in
theorem up_ev (most : Int) (d : Bool) (x y : Option BX) : Meets Tryd.prog 16 [.ptr 500 0] [(500, some ⟨rowW most d 501 502 x y, 51, false⟩)] (.bool (!d)) [(500, some ⟨rowW most d 501 502 x y, 51, false⟩)] := by
 refine meets_of_ev (nt := 8) Tryd.func16 rfl rfl (Nat.le_of_ble_eq_true rfl) ?_
 refine .seq ?_
 refine .region ?_
 refine .q (op_assign rfl) trivial rfl ?_
 refine .nil ?_
 show Ev _ _ _ _ _
 refine .seq ?_
 refine .region ?_
 refine .q (op_move rfl) trivial rfl ?_
 refine .q (op_nilCheck rfl) trivial rfl ?_
 refine .q (op_fieldAddr (m := 0) Tryd.underlying51 rfl (by kernel_rfl) rfl) trivial rfl ?_
 refine .as (.ptr 500 1) rfl ?_
 refine .q (op_load Tryd.underlying4 rfl rfl rfl rfl (by show 1 < 8; decide)) trivial rfl ?_
 refine .q (op_notB rfl) trivial rfl ?_
 refine .q (op_assign rfl) trivial rfl ?_
 refine .nil ?_
 show Ev _ _ _ _ _
 refine .ret ?_
 show RetOk _ _ _ _ _ _ _
 exact ret1v rfl (.inl rfl) rfl (rfl) ⟨rfl, trivial⟩
theorem a25_new : Meets Tryd.prog 6 [.i64 2] [] (.ptr 1000 0) [(1000, some ⟨.agg [.i64 2, .bool false, .nilsl, .i64 0, .val (.int .i8 0), .nilsl, .i64 0, .val (.int .i8 0)], 51, true⟩)] := by
 have h := new_ev 2
 rw [show min (max (2 : Int) 1) 16777216 = 2 by decide] at h
 exact h
theorem a25_put : Meets Tryd.prog 9 [.ptr 500 0, .i64 0, .str [97, 98, 99]] [(500, some ⟨.agg [.i64 2, .bool false, .nilsl, .i64 0, .val (.int .i8 0), .nilsl, .i64 0, .val (.int .i8 0)], 51, true⟩)] (.tup [.i64 2, .val .nilIface]) [(500, some ⟨.agg [.i64 2, .bool false, .slk 1104 0 2 64 true, .i64 0, .val (.int .i8 (0)), .nilsl, .i64 0, .val (.int .i8 0)], 51, true⟩), (1104, some ⟨bufC (wrB z64 0 [97, 98]) 64, 5, true⟩)] := by
 have h := put_nil0 2 none (by decide) (by decide) [97, 98, 99] [97, 98] 2 (by decide) (by decide) rfl (by decide) (by decide)
 exact h
theorem a25_str : ((wrB z64 0 [97, 98]).drop 0).take 1 = [97] := by decide
theorem a25_take : Meets Tryd.prog 11 [.ptr 500 0, .i64 0, .i64 1] [(500, some ⟨.agg [.i64 2, .bool false, .slk 501 0 2 64 true, .i64 0, .val (.int .i8 (0)), .nilsl, .i64 0, .val (.int .i8 0)], 51, true⟩), (501, some ⟨bufC (wrB z64 0 [97, 98]) 64, 5, false⟩)] (.tup [.str [97], .val .nilIface]) [(500, some ⟨.agg [.i64 2, .bool false, .slk 501 0 2 64 true, .i64 1, .val (.int .i8 (-1)), .nilsl, .i64 0, .val (.int .i8 0)], 51, true⟩)] := by
 have h := take_cp0 2 none (wrB z64 0 [97, 98]) 64 2 0 0 (by decide) (by rw [wrB_len _ (Nat.zero_le _), z64_len]; decide) (by rw [wrB_len _ (Nat.zero_le _), z64_len]; decide) (by decide) (by decide) (by decide) 1 1 (by decide) (by decide) (by decide)
 rw [a25_str] at h
 exact h
theorem a25_room0 : Meets Tryd.prog 15 [.ptr 500 0, .i64 0] [(500, some ⟨.agg [.i64 2, .bool false, .slk 501 0 2 64 true, .i64 1, .val (.int .i8 (-1)), .nilsl, .i64 0, .val (.int .i8 0)], 51, false⟩)] (.i64 1) [(500, some ⟨.agg [.i64 2, .bool false, .slk 501 0 2 64 true, .i64 1, .val (.int .i8 (-1)), .nilsl, .i64 0, .val (.int .i8 0)], 51, false⟩)] := by
 have h := wroom_sl0 2 none 64 2 1 (-1) (by decide) (by decide) (by decide) (by decide)
 exact h
theorem a25_room1 : Meets Tryd.prog 15 [.ptr 500 0, .i64 1] [(500, some ⟨.agg [.i64 2, .bool false, .slk 501 0 2 64 true, .i64 1, .val (.int .i8 (-1)), .nilsl, .i64 0, .val (.int .i8 0)], 51, false⟩)] (.i64 2) [(500, some ⟨.agg [.i64 2, .bool false, .slk 501 0 2 64 true, .i64 1, .val (.int .i8 (-1)), .nilsl, .i64 0, .val (.int .i8 0)], 51, false⟩)] := by
 have h := wroom_nil1 2 (some ⟨(wrB z64 0 [97, 98]), 64, 2, 1, -1⟩) (by decide) (by decide)
 exact h
theorem a25_up : Meets Tryd.prog 16 [.ptr 500 0] [(500, some ⟨.agg [.i64 2, .bool false, .slk 501 0 2 64 true, .i64 1, .val (.int .i8 (-1)), .nilsl, .i64 0, .val (.int .i8 0)], 51, false⟩)] (.bool true) [(500, some ⟨.agg [.i64 2, .bool false, .slk 501 0 2 64 true, .i64 1, .val (.int .i8 (-1)), .nilsl, .i64 0, .val (.int .i8 0)], 51, false⟩)] := by
 have h := up_ev 2 false (some ⟨(wrB z64 0 [97, 98]), 64, 2, 1, -1⟩) none
 exact h
set_option maxRecDepth 100000 in
theorem awake25_ev  : Meets Tryd.prog 5 [] [] (.bool true) [] := by
 refine meets_of_ev (nt := 47) Tryd.func5 rfl rfl (Nat.le_of_ble_eq_true rfl) ?_
 refine .seq ?_
 refine .region ?_
 refine .q (op_assign rfl) trivial rfl ?_
 refine .nil ?_
 show Ev _ _ _ _ _
 refine .seq ?_
 refine .region ?_
 refine .a (op_call (U := [(1000, some ⟨.agg [.i64 2, .bool false, .nilsl, .i64 0, .val (.int .i8 0), .nilsl, .i64 0, .val (.int .i8 0)], 51, true⟩)]) [] [(1000, 1000)] (a25_new) Tryd.func6 (by kernel_rfl) rfl rfl rfl (⟨⟨_, rfl, rfl, rfl⟩, trivial⟩) (trivial) (⟨⟨1000, _, rfl, rfl, rfl, rfl, .inl rfl⟩, trivial⟩) (trivial) rfl) trivial rfl ?_
 refine .q (op_assign rfl) trivial rfl ?_
 refine .nil ?_
 show Ev _ _ _ _ _
 refine .seq ?_
 refine .seq ?_
 refine .region ?_
 refine .q (op_move rfl) trivial rfl ?_
 refine .q (op_eqPtrNil Tryd.underlying24 rfl rfl rfl) trivial rfl ?_
 refine .nil ?_
 show Ev _ _ _ _ _
 refine .cond_false rfl (rfl) ?_
 refine .skip ?_
 show Ev _ _ _ _ _
 refine .seq ?_
 refine .region ?_
 refine .q (op_move rfl) trivial rfl ?_
 refine .a (op_call (U := [(1008, some ⟨bufC (wrB z64 0 [97, 98]) 64, 5, true⟩), (1000, some ⟨.agg [.i64 2, .bool false, .slk 1008 0 2 64 true, .i64 0, .val (.int .i8 (0)), .nilsl, .i64 0, .val (.int .i8 0)], 51, true⟩)]) [(500, 1000)] [(1008, 1104)] (a25_put) Tryd.func9 (by kernel_rfl) rfl rfl rfl (⟨⟨_, rfl, rfl, rfl⟩, ⟨_, rfl, rfl, rfl⟩, ⟨_, rfl, rfl, rfl⟩, trivial⟩) (⟨⟨_, _, rfl, rfl, rfl, rfl, id, rfl⟩, trivial⟩) (⟨⟨1104, _, rfl, congrArg (fun z => (⟨z, _, _⟩ : ABlk)) (bufC_ren _ _ _).symm, rfl, bufC_nmF _ _ _ _, .inl rfl⟩, ⟨500, _, rfl, rfl, rfl, rfl, .inr ⟨rfl, _, rfl, rfl⟩⟩, trivial⟩) (⟨(fun _ => ⟨1000, _, rfl, rfl⟩), trivial⟩) rfl) trivial rfl ?_
 refine .q (op_move rfl) trivial rfl ?_
 refine .q (op_extract rfl rfl) trivial rfl ?_
 refine .q (op_extract rfl rfl) trivial rfl ?_
 refine .q (op_assign rfl) trivial rfl ?_
 refine .q (op_assign rfl) trivial rfl ?_
 refine .nil ?_
 show Ev _ _ _ _ _
 refine .seq ?_
 refine .region ?_
 refine .q (op_move rfl) trivial rfl ?_
 refine .a (op_call (U := [(1000, some ⟨.agg [.i64 2, .bool false, .slk 1008 0 2 64 true, .i64 1, .val (.int .i8 (-1)), .nilsl, .i64 0, .val (.int .i8 0)], 51, true⟩)]) [(500, 1000), (501, 1008)] [] (a25_take) Tryd.func11 (by kernel_rfl) rfl rfl rfl (⟨⟨_, rfl, rfl, rfl⟩, ⟨_, rfl, rfl, rfl⟩, ⟨_, rfl, rfl, rfl⟩, trivial⟩) (⟨⟨_, _, rfl, rfl, rfl, rfl, id, rfl⟩, ⟨_, _, rfl, rfl, bufC_ren _ _ _, rfl, (fun h => by cases h), bufC_nmC _ _ _⟩, trivial⟩) (⟨⟨500, _, rfl, rfl, rfl, rfl, .inr ⟨rfl, _, rfl, rfl⟩⟩, trivial⟩) (⟨(fun _ => ⟨1000, _, rfl, rfl⟩), (fun h => by cases h), trivial⟩) rfl) trivial rfl ?_
 refine .q (op_move rfl) trivial rfl ?_
 refine .q (op_extract rfl rfl) trivial rfl ?_
 refine .q (op_extract rfl rfl) trivial rfl ?_
 refine .q (op_assign rfl) trivial rfl ?_
 refine .q (op_assign rfl) trivial rfl ?_
 refine .nil ?_
 show Ev _ _ _ _ _
 refine .seq ?_
 refine .region ?_
 refine .q (op_move rfl) trivial rfl ?_
 refine .q (op_cmpI rfl rfl rfl) trivial rfl ?_
 refine .q (op_move rfl) trivial rfl ?_
 refine .know (b' := true) (rfl) ?_
 refine .q (op_move rfl) ⟨_, rfl, rfl⟩ rfl ?_
 refine .q (op_eqNilNil Tryd.underlying31 rfl rfl) ⟨_, rfl, rfl⟩ rfl ?_
 refine .q (op_pick_true rfl rfl rfl) trivial rfl ?_
 refine .q (op_move rfl) trivial rfl ?_
 refine .know (b' := true) (rfl) ?_
 refine .q (op_move rfl) ⟨_, rfl, rfl⟩ rfl ?_
 refine .q (op_eqS rfl rfl rfl) ⟨_, rfl, rfl⟩ rfl ?_
 refine .q (op_pick_true rfl rfl rfl) trivial rfl ?_
 refine .q (op_move rfl) trivial rfl ?_
 refine .know (b' := true) (rfl) ?_
 refine .q (op_move rfl) ⟨_, rfl, rfl⟩ rfl ?_
 refine .q (op_eqNilNil Tryd.underlying31 rfl rfl) ⟨_, rfl, rfl⟩ rfl ?_
 refine .q (op_pick_true rfl rfl rfl) trivial rfl ?_
 refine .q (op_move rfl) trivial rfl ?_
 refine .know (b' := true) (rfl) ?_
 refine .q (op_move rfl) ⟨_, rfl, rfl⟩ rfl ?_
 refine .q (op_call (U := []) [(500, 1000), (501, 1008)] [] (a25_up) Tryd.func16 (by kernel_rfl) rfl rfl rfl (⟨⟨_, rfl, rfl, rfl⟩, trivial⟩) (⟨⟨_, _, rfl, rfl, rfl, rfl, (fun h => by cases h), rfl⟩, trivial⟩) (trivial) (⟨(fun h => by cases h), trivial⟩) rfl) ⟨_, rfl, rfl⟩ rfl ?_
 refine .q (op_pick_true rfl rfl rfl) trivial rfl ?_
 refine .q (op_move rfl) trivial rfl ?_
 refine .know (b' := true) (rfl) ?_
 refine .q (op_move rfl) ⟨_, rfl, rfl⟩ rfl ?_
 refine .q (op_call (U := []) [(500, 1000), (501, 1008)] [] (a25_room0) Tryd.func15 (by kernel_rfl) rfl rfl rfl (⟨⟨_, rfl, rfl, rfl⟩, ⟨_, rfl, rfl, rfl⟩, trivial⟩) (⟨⟨_, _, rfl, rfl, rfl, rfl, (fun h => by cases h), rfl⟩, trivial⟩) (trivial) (⟨(fun h => by cases h), trivial⟩) rfl) ⟨_, rfl, rfl⟩ rfl ?_
 refine .q (op_cmpI rfl rfl rfl) ⟨_, rfl, rfl⟩ rfl ?_
 refine .q (op_pick_true rfl rfl rfl) trivial rfl ?_
 refine .q (op_move rfl) trivial rfl ?_
 refine .know (b' := true) (rfl) ?_
 refine .q (op_move rfl) ⟨_, rfl, rfl⟩ rfl ?_
 refine .q (op_call (U := []) [(500, 1000), (501, 1008)] [] (a25_room1) Tryd.func15 (by kernel_rfl) rfl rfl rfl (⟨⟨_, rfl, rfl, rfl⟩, ⟨_, rfl, rfl, rfl⟩, trivial⟩) (⟨⟨_, _, rfl, rfl, rfl, rfl, (fun h => by cases h), rfl⟩, trivial⟩) (trivial) (⟨(fun h => by cases h), trivial⟩) rfl) ⟨_, rfl, rfl⟩ rfl ?_
 refine .q (op_cmpI rfl rfl rfl) ⟨_, rfl, rfl⟩ rfl ?_
 refine .q (op_pick_true rfl rfl rfl) trivial rfl ?_
 refine .q (op_assign rfl) trivial rfl ?_
 refine .nil ?_
 show Ev _ _ _ _ _
 refine .ret ?_
 show RetOk _ _ _ _ _ _ _
 exact ret1v rfl (.inl rfl) rfl (rfl) trivial
end Go.Proofs.YtpmoonglbcglaaaDoor
namespace Go.Proofs.YtpmoonglbcglaaaDoor
open Go.RowKit
/-- Where the law stands: what was put and taken, both ways. -/
structure OI (s t : List UInt8) (n : Nat) where
  i : Nat
  x : Option BX
  y : Option BX
  a : List UInt8
  b : List UInt8
  c : List UInt8
  d : List UInt8
  hi : i ≤ n
  h60 : i ≤ 60
  es : a ++ (live x ++ c) = s
  et : b ++ (live y ++ d) = t
  hx : BOk x (31 * i)
  hy : BOk y (31 * i)
end Go.Proofs.YtpmoonglbcglaaaDoor
