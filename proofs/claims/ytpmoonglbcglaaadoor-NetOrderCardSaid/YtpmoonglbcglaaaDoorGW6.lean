/-
  Texts of this claim.
-/
import Derived.Test.YtpmoonglbcglaaaDoorGWE
import Derived.Test.YtpmoonglbcglaaaDoorGW5
namespace Go.Proofs.YtpmoonglbcglaaaDoor
open Go.RowKit
set_option maxRecDepth 100000 in
theorem cut_ev (s : List UInt8) (n : Nat) (hs : s.length ≤ maxLen) (hn : n ≤ 1000) : Meets Tryd.prog 8 [.str s, .i64 n] [] (.str (s.take n)) [] := by
 refine meets_of_ev (nt := 13) Tryd.func8 rfl rfl (Nat.le_of_ble_eq_true rfl) ?_
 refine .seq ?_
 refine .region ?_
 refine .q (op_assign rfl) trivial rfl ?_
 refine .nil ?_
 show Ev _ _ _ _ _
 refine .seq ?_
 refine .seq ?_
 refine .region ?_
 refine .q (op_move rfl) trivial rfl ?_
 refine .q (op_len_str Tryd.underlying9 rfl) trivial rfl ?_
 refine .q (op_move rfl) trivial rfl ?_
 refine .q (op_cmpI rfl rfl rfl) trivial rfl ?_
 refine .nil ?_
 show Ev _ _ _ _ _
 refine .cond rfl (fun hc8 => ?_) (fun hc8 => ?_)
 ·simp only [decide_eq_true_eq, decide_eq_false_iff_not, beq_iff_eq, bne_iff_ne, ne_eq, beq_eq_false_iff_ne, bne_eq_false_iff_eq] at hc8
  refine .seq ?_
  refine .region ?_
  refine .q (op_move rfl) trivial rfl ?_
  refine .q (op_move rfl) trivial rfl ?_
  refine .q (ap_slice_str_hi Tryd.underlying9 rfl (bnd_some rfl rfl) (by first | omega | (simp only [AV.len]; omega) | (simp only [AV.len, List.length_set]; omega) | assumption | (simp [AV.len]; done))) trivial rfl ?_
  refine .q (op_assign rfl) trivial rfl ?_
  refine .nil ?_
  show Ev _ _ _ _ _
  refine .ret ?_
  show RetOk _ _ _ _ _ _ _
  first
   | exact ret1v rfl (.inl rfl) rfl (congrArg AV.str (by first | rfl | (rw [List.take_of_length_le (by omega)]))) trivial
   | exact ret1v rfl (.inl rfl) rfl rfl trivial
 ·simp only [decide_eq_true_eq, decide_eq_false_iff_not, beq_iff_eq, bne_iff_ne, ne_eq, beq_eq_false_iff_ne, bne_eq_false_iff_eq] at hc8
  refine .skip ?_
  show Ev _ _ _ _ _
  refine .seq ?_
  refine .region ?_
  refine .q (op_move rfl) trivial rfl ?_
  refine .q (op_assign rfl) trivial rfl ?_
  refine .nil ?_
  show Ev _ _ _ _ _
  refine .ret ?_
  show RetOk _ _ _ _ _ _ _
  first
   | exact ret1v rfl (.inl rfl) rfl (congrArg AV.str (by first | rfl | (rw [List.take_of_length_le (by omega)]))) trivial
   | exact ret1v rfl (.inl rfl) rfl rfl trivial
end Go.Proofs.YtpmoonglbcglaaaDoor
namespace Go.Proofs.YtpmoonglbcglaaaDoor
open Go.RowKit
/-- What is not known, then the cells. -/
def offC (o : Nat) (cs : List AV) : List AV := List.replicate o .hole ++ cs
/-- A cell that names no block. -/
def AV.flatV : AV → Bool
  | .u8 _ | .u32 _ | .u64 _ | .i64 _ | .bool _ | .str _ | .hole | .dsl _ => true
  | _ => false
theorem flat_ren {x : AV} (h : x.flatV = true) (f : Nat → Nat) : x.ren f = x := by cases x <;> first | rfl | cases h
theorem flat_names {x : AV} (h : x.flatV = true) : x.names = [] := by cases x <;> first | rfl | cases h
theorem offC_len (o : Nat) (cs : List AV) : (AV.agg (offC o cs)).len = o + cs.length := by
  show (offC o cs).length = _
  unfold offC
  rw [List.length_append, List.length_replicate]
theorem offC_nth {o i : Nat} {cs : List AV} {v : AV} (h : cs[i]? = some v) : (AV.agg (offC o cs)).nth (o + i) = some v := by
  show (offC o cs)[o + i]? = _
  unfold offC
  rw [List.getElem?_append_right (by rw [List.length_replicate]; omega), List.length_replicate, show o + i - o = i by omega, h]
theorem offC_flat {o : Nat} {cs : List AV} (h : cs.all AV.flatV = true) : (offC o cs).all AV.flatV = true := by
  unfold offC
  rw [List.all_append, h, Bool.and_true]
  exact List.all_eq_true.2 fun x hx => by rw [List.eq_of_mem_replicate hx]; rfl
theorem flat_list {l : List AV} (h : l.all AV.flatV = true) : (∀ f, AV.renL f l = l) ∧ AV.namesL l = [] := by
  induction l with
  | nil => exact ⟨fun _ => rfl, rfl⟩
  | cons x l ih =>
    rw [List.all_cons, Bool.and_eq_true] at h
    obtain ⟨h1, h2⟩ := ih h.2
    exact ⟨fun f => by show x.ren f :: AV.renL f l = _; rw [h1 f, flat_ren h.1], by show x.names ++ AV.namesL l = _; rw [h2, flat_names h.1]; rfl⟩
theorem offC_ren (f : Nat → Nat) (o : Nat) {cs : List AV} (h : cs.all AV.flatV = true) : (AV.agg (offC o cs)).ren f = AV.agg (offC o cs) := by
  show AV.agg (AV.renL f (offC o cs)) = _
  rw [(flat_list (offC_flat h)).1 f]
theorem offC_nm (L : List (Nat × Nat)) (o : Nat) {cs : List AV} (h : cs.all AV.flatV = true) : nmOk L (AV.agg (offC o cs)).names = true := by
  show nmOk L (AV.namesL (offC o cs)) = true
  rw [(flat_list (offC_flat h)).2]; rfl
/-- Rows of the elements of a list, one behind the other. -/
def rowsC {α : Type} (f : α → List AV) (l : List α) : List AV := l.flatMap f
section
variable {α : Type} {f : α → List AV} {z : Nat}
end
theorem get_i {α : Type} {l : List α} {i : Nat} (d : α) (h : i < l.length) : l[i]? = some (l.getD i d) := by
  rw [List.getD_eq_getElem?_getD, List.getElem?_eq_getElem h]; rfl
end Go.Proofs.YtpmoonglbcglaaaDoor
namespace Go.Proofs.YtpmoonglbcglaaaDoor
open Go.RowKit
theorem rowW_uo {L N : List (Nat × Nat)} {most : Int} {dn : Bool} {b0 b1 c0 c1 t : Nat} {x y : Option BX} (h0 : fwd L N c0 = b0) (h1 : fwd L N c1 = b1) : (⟨rowW most dn b0 b1 x y, t, true⟩ : ABlk) = ⟨(rowW most dn c0 c1 x y).ren (fwd L N), t, true⟩ := by
  rw [rowW_ren, h0, h1]
theorem Cov.ob {L : List (Nat × Nat)} {U : List (Nat × Option ABlk)} {c : Nat} {x : Option BX} {r : List (Nat × Option ABlk)} (hr : Cov L U r) : Cov L U ((c, bK false x) :: r) := by
  cases x with
  | none => exact hr
  | some x => exact ⟨fun h => (by cases h), hr⟩
theorem Ev.monoQ {P : Program} {nt : Nat} {c : Code} {st : St} {post post' : Exit → St → Prop} (h : Ev P nt c st post) (hp : ∀ e st', post e st' → post' e st') : Ev P nt c st post' :=
  fun E S n0 a w hn hR => wp_mono (h E S n0 a w hn hR) fun _ _ _ ⟨st', E', h1, h2⟩ => ⟨st', E', ⟨h1.1, hp _ _ h1.2⟩, h2⟩
theorem Ev.cutp {P : Program} {nt : Nat} {c y : Code} {st : St} {post : Exit → St → Prop} {ι : Type} (S : ι → St) (h1 : Ev P nt c st (thenA (fun st' => ∃ i, StLe nt st' (S i)) post)) (h2 : ∀ i, Ev P nt y (S i) post) : Ev P nt c st (thenA (fun st' => Ev P nt y st' post) post) :=
  h1.monoQ fun e st' h => by
    cases e with
    | normal => obtain ⟨i, hi⟩ := h; exact Ev.weak hi (h2 i)
    | _ => exact h
set_option maxRecDepth 100000 in
theorem up_ev (most : Int) (d : Bool) (x y : Option BX) : Meets Tryd.prog 16 [.ptr 500 0] [(500, some ⟨rowW most d 501 502 x y, 51, false⟩)] (.bool (!d)) [(500, some ⟨rowW most d 501 502 x y, 51, false⟩)] := by
 refine meets_of_ev (nt := 8) Tryd.func16 rfl rfl (Nat.le_of_ble_eq_true rfl) ?_
 refine .seq ?_
 refine .region ?_
 refine .q (op_assign rfl) trivial rfl ?_
 refine .nil ?_
 show Ev _ _ _ _ _
 refine .seq ?_
 refine .region ?_
 refine .q (op_move rfl) trivial rfl ?_
 refine .q (op_nilCheck rfl) trivial rfl ?_
 refine .q (op_fieldAddr (m := 0) Tryd.underlying51 rfl (by kernel_rfl) rfl) trivial rfl ?_
 refine .as (.ptr 500 1) rfl ?_
 refine .q (op_load Tryd.underlying4 rfl rfl rfl rfl (by show 1 < 8; decide)) trivial rfl ?_
 refine .q (op_notB rfl) trivial rfl ?_
 refine .q (op_assign rfl) trivial rfl ?_
 refine .nil ?_
 show Ev _ _ _ _ _
 refine .ret ?_
 show RetOk _ _ _ _ _ _ _
 exact ret1v rfl (.inl rfl) rfl (rfl) ⟨rfl, trivial⟩
theorem a25_new : Meets Tryd.prog 6 [.i64 2] [] (.ptr 1000 0) [(1000, some ⟨.agg [.i64 2, .bool false, .nilsl, .i64 0, .val (.int .i8 0), .nilsl, .i64 0, .val (.int .i8 0)], 51, true⟩)] := by
 have h := new_ev 2
 rw [show min (max (2 : Int) 1) 16777216 = 2 by decide] at h
 exact h
theorem a25_put : Meets Tryd.prog 9 [.ptr 500 0, .i64 0, .str [97, 98, 99]] [(500, some ⟨.agg [.i64 2, .bool false, .nilsl, .i64 0, .val (.int .i8 0), .nilsl, .i64 0, .val (.int .i8 0)], 51, true⟩)] (.tup [.i64 2, .val .nilIface]) [(500, some ⟨.agg [.i64 2, .bool false, .slk 1104 0 2 64 true, .i64 0, .val (.int .i8 (0)), .nilsl, .i64 0, .val (.int .i8 0)], 51, true⟩), (1104, some ⟨bufC (wrB z64 0 [97, 98]) 64, 5, true⟩)] := by
 have h := put_nil0n 2 (by decide) (by decide) [97, 98, 99] [97, 98] 2 (by decide) (by decide) rfl (by decide) (by decide)
 exact h
theorem a25_str : ((wrB z64 0 [97, 98]).drop 0).take 1 = [97] := by decide
theorem a25_take : Meets Tryd.prog 11 [.ptr 500 0, .i64 0, .i64 1] [(500, some ⟨.agg [.i64 2, .bool false, .slk 501 0 2 64 true, .i64 0, .val (.int .i8 (0)), .nilsl, .i64 0, .val (.int .i8 0)], 51, true⟩), (501, some ⟨bufC (wrB z64 0 [97, 98]) 64, 5, false⟩)] (.tup [.str [97], .val .nilIface]) [(500, some ⟨.agg [.i64 2, .bool false, .slk 501 0 2 64 true, .i64 1, .val (.int .i8 (-1)), .nilsl, .i64 0, .val (.int .i8 0)], 51, true⟩)] := by
 have h := take_cp0n 2 (wrB z64 0 [97, 98]) 64 2 0 0 (by decide) (by rw [wrB_len _ (Nat.zero_le _), z64_len]; decide) (by rw [wrB_len _ (Nat.zero_le _), z64_len]; decide) (by decide) (by decide) (by decide) 1 1 (by decide) (by decide) (by decide)
 rw [a25_str] at h
 exact h
theorem a25_room0 : Meets Tryd.prog 15 [.ptr 500 0, .i64 0] [(500, some ⟨.agg [.i64 2, .bool false, .slk 501 0 2 64 true, .i64 1, .val (.int .i8 (-1)), .nilsl, .i64 0, .val (.int .i8 0)], 51, false⟩)] (.i64 1) [(500, some ⟨.agg [.i64 2, .bool false, .slk 501 0 2 64 true, .i64 1, .val (.int .i8 (-1)), .nilsl, .i64 0, .val (.int .i8 0)], 51, false⟩)] := by
 have h := wroom_sl0n 2 64 2 1 (-1) (by decide) (by decide) (by decide) (by decide)
 exact h
theorem a25_room1 : Meets Tryd.prog 15 [.ptr 500 0, .i64 1] [(500, some ⟨.agg [.i64 2, .bool false, .slk 501 0 2 64 true, .i64 1, .val (.int .i8 (-1)), .nilsl, .i64 0, .val (.int .i8 0)], 51, false⟩)] (.i64 2) [(500, some ⟨.agg [.i64 2, .bool false, .slk 501 0 2 64 true, .i64 1, .val (.int .i8 (-1)), .nilsl, .i64 0, .val (.int .i8 0)], 51, false⟩)] := by
 have h := wroom_nil1s 2 64 2 1 (-1) (by decide) (by decide)
 exact h
theorem a25_up : Meets Tryd.prog 16 [.ptr 500 0] [(500, some ⟨.agg [.i64 2, .bool false, .slk 501 0 2 64 true, .i64 1, .val (.int .i8 (-1)), .nilsl, .i64 0, .val (.int .i8 0)], 51, false⟩)] (.bool true) [(500, some ⟨.agg [.i64 2, .bool false, .slk 501 0 2 64 true, .i64 1, .val (.int .i8 (-1)), .nilsl, .i64 0, .val (.int .i8 0)], 51, false⟩)] := by
 have h := up_ev 2 false (some ⟨(wrB z64 0 [97, 98]), 64, 2, 1, -1⟩) none
 exact h
set_option maxRecDepth 100000 in
theorem awake25_ev  : Meets Tryd.prog 5 [] [] (.bool true) [] := by
 refine meets_of_ev (nt := 47) Tryd.func5 rfl rfl (Nat.le_of_ble_eq_true rfl) ?_
 refine .seq ?_
 refine .region ?_
 refine .q (op_assign rfl) trivial rfl ?_
 refine .nil ?_
 show Ev _ _ _ _ _
 refine .seq ?_
 refine .region ?_
 refine .a (op_call (U := [(1000, some ⟨.agg [.i64 2, .bool false, .nilsl, .i64 0, .val (.int .i8 0), .nilsl, .i64 0, .val (.int .i8 0)], 51, true⟩)]) [] [(1000, 1000)] (a25_new) Tryd.func6 (by kernel_rfl) rfl rfl rfl (⟨⟨_, rfl, rfl, rfl⟩, trivial⟩) (trivial) (⟨⟨1000, _, rfl, rfl, rfl, rfl, .inl rfl⟩, trivial⟩) (trivial) rfl) trivial rfl ?_
 refine .q (op_assign rfl) trivial rfl ?_
 refine .nil ?_
 show Ev _ _ _ _ _
 refine .seq ?_
 refine .seq ?_
 refine .region ?_
 refine .q (op_move rfl) trivial rfl ?_
 refine .q (op_eqPtrNil Tryd.underlying24 rfl rfl rfl) trivial rfl ?_
 refine .nil ?_
 show Ev _ _ _ _ _
 refine .cond_false rfl (rfl) ?_
 refine .skip ?_
 show Ev _ _ _ _ _
 refine .seq ?_
 refine .region ?_
 refine .q (op_move rfl) trivial rfl ?_
 refine .a (op_call (U := [(1008, some ⟨bufC (wrB z64 0 [97, 98]) 64, 5, true⟩), (1000, some ⟨.agg [.i64 2, .bool false, .slk 1008 0 2 64 true, .i64 0, .val (.int .i8 (0)), .nilsl, .i64 0, .val (.int .i8 0)], 51, true⟩)]) [(500, 1000)] [(1008, 1104)] (a25_put) Tryd.func9 (by kernel_rfl) rfl rfl rfl (⟨⟨_, rfl, rfl, rfl⟩, ⟨_, rfl, rfl, rfl⟩, ⟨_, rfl, rfl, rfl⟩, trivial⟩) (⟨⟨_, _, rfl, rfl, rfl, rfl, id, rfl⟩, trivial⟩) (⟨⟨1104, _, rfl, congrArg (fun z => (⟨z, _, _⟩ : ABlk)) (bufC_ren _ _ _).symm, rfl, bufC_nmF _ _ _ _, .inl rfl⟩, ⟨500, _, rfl, rfl, rfl, rfl, .inr ⟨rfl, _, rfl, rfl⟩⟩, trivial⟩) (⟨(fun _ => ⟨1000, _, rfl, rfl⟩), trivial⟩) rfl) trivial rfl ?_
 refine .q (op_move rfl) trivial rfl ?_
 refine .q (op_extract rfl rfl) trivial rfl ?_
 refine .q (op_extract rfl rfl) trivial rfl ?_
 refine .q (op_assign rfl) trivial rfl ?_
 refine .q (op_assign rfl) trivial rfl ?_
 refine .nil ?_
 show Ev _ _ _ _ _
 refine .seq ?_
 refine .region ?_
 refine .q (op_move rfl) trivial rfl ?_
 refine .a (op_call (U := [(1000, some ⟨.agg [.i64 2, .bool false, .slk 1008 0 2 64 true, .i64 1, .val (.int .i8 (-1)), .nilsl, .i64 0, .val (.int .i8 0)], 51, true⟩)]) [(500, 1000), (501, 1008)] [] (a25_take) Tryd.func11 (by kernel_rfl) rfl rfl rfl (⟨⟨_, rfl, rfl, rfl⟩, ⟨_, rfl, rfl, rfl⟩, ⟨_, rfl, rfl, rfl⟩, trivial⟩) (⟨⟨_, _, rfl, rfl, rfl, rfl, id, rfl⟩, ⟨_, _, rfl, rfl, bufC_ren _ _ _, rfl, (fun h => by cases h), bufC_nmC _ _ _⟩, trivial⟩) (⟨⟨500, _, rfl, rfl, rfl, rfl, .inr ⟨rfl, _, rfl, rfl⟩⟩, trivial⟩) (⟨(fun _ => ⟨1000, _, rfl, rfl⟩), (fun h => by cases h), trivial⟩) rfl) trivial rfl ?_
 refine .q (op_move rfl) trivial rfl ?_
 refine .q (op_extract rfl rfl) trivial rfl ?_
 refine .q (op_extract rfl rfl) trivial rfl ?_
 refine .q (op_assign rfl) trivial rfl ?_
 refine .q (op_assign rfl) trivial rfl ?_
 refine .nil ?_
 show Ev _ _ _ _ _
 refine .seq ?_
 refine .region ?_
 refine .q (op_move rfl) trivial rfl ?_
 refine .q (op_cmpI rfl rfl rfl) trivial rfl ?_
 refine .q (op_move rfl) trivial rfl ?_
 refine .know (b' := true) (rfl) ?_
 refine .q (op_move rfl) ⟨_, rfl, rfl⟩ rfl ?_
 refine .q (op_eqNilNil Tryd.underlying31 rfl rfl) ⟨_, rfl, rfl⟩ rfl ?_
 refine .q (op_pick_true rfl rfl rfl) trivial rfl ?_
 refine .q (op_move rfl) trivial rfl ?_
 refine .know (b' := true) (rfl) ?_
 refine .q (op_move rfl) ⟨_, rfl, rfl⟩ rfl ?_
 refine .q (op_eqS rfl rfl rfl) ⟨_, rfl, rfl⟩ rfl ?_
 refine .q (op_pick_true rfl rfl rfl) trivial rfl ?_
 refine .q (op_move rfl) trivial rfl ?_
 refine .know (b' := true) (rfl) ?_
 refine .q (op_move rfl) ⟨_, rfl, rfl⟩ rfl ?_
 refine .q (op_eqNilNil Tryd.underlying31 rfl rfl) ⟨_, rfl, rfl⟩ rfl ?_
 refine .q (op_pick_true rfl rfl rfl) trivial rfl ?_
 refine .q (op_move rfl) trivial rfl ?_
 refine .know (b' := true) (rfl) ?_
 refine .q (op_move rfl) ⟨_, rfl, rfl⟩ rfl ?_
 refine .q (op_call (U := []) [(500, 1000), (501, 1008)] [] (a25_up) Tryd.func16 (by kernel_rfl) rfl rfl rfl (⟨⟨_, rfl, rfl, rfl⟩, trivial⟩) (⟨⟨_, _, rfl, rfl, rfl, rfl, (fun h => by cases h), rfl⟩, trivial⟩) (trivial) (⟨(fun h => by cases h), trivial⟩) rfl) ⟨_, rfl, rfl⟩ rfl ?_
 refine .q (op_pick_true rfl rfl rfl) trivial rfl ?_
 refine .q (op_move rfl) trivial rfl ?_
 refine .know (b' := true) (rfl) ?_
 refine .q (op_move rfl) ⟨_, rfl, rfl⟩ rfl ?_
 refine .q (op_call (U := []) [(500, 1000), (501, 1008)] [] (a25_room0) Tryd.func15 (by kernel_rfl) rfl rfl rfl (⟨⟨_, rfl, rfl, rfl⟩, ⟨_, rfl, rfl, rfl⟩, trivial⟩) (⟨⟨_, _, rfl, rfl, rfl, rfl, (fun h => by cases h), rfl⟩, trivial⟩) (trivial) (⟨(fun h => by cases h), trivial⟩) rfl) ⟨_, rfl, rfl⟩ rfl ?_
 refine .q (op_cmpI rfl rfl rfl) ⟨_, rfl, rfl⟩ rfl ?_
 refine .q (op_pick_true rfl rfl rfl) trivial rfl ?_
 refine .q (op_move rfl) trivial rfl ?_
 refine .know (b' := true) (rfl) ?_
 refine .q (op_move rfl) ⟨_, rfl, rfl⟩ rfl ?_
 refine .q (op_call (U := []) [(500, 1000), (501, 1008)] [] (a25_room1) Tryd.func15 (by kernel_rfl) rfl rfl rfl (⟨⟨_, rfl, rfl, rfl⟩, ⟨_, rfl, rfl, rfl⟩, trivial⟩) (⟨⟨_, _, rfl, rfl, rfl, rfl, (fun h => by cases h), rfl⟩, trivial⟩) (trivial) (⟨(fun h => by cases h), trivial⟩) rfl) ⟨_, rfl, rfl⟩ rfl ?_
 refine .q (op_cmpI rfl rfl rfl) ⟨_, rfl, rfl⟩ rfl ?_
 refine .q (op_pick_true rfl rfl rfl) trivial rfl ?_
 refine .q (op_assign rfl) trivial rfl ?_
 refine .nil ?_
 show Ev _ _ _ _ _
 refine .ret ?_
 show RetOk _ _ _ _ _ _ _
 exact ret1v rfl (.inl rfl) rfl (rfl) trivial
end Go.Proofs.YtpmoonglbcglaaaDoor
namespace Go.Proofs.YtpmoonglbcglaaaDoor
open Go.RowKit
/-- Where the law stands: what was put and taken, both ways. -/
structure OI (s t : List UInt8) (n : Nat) where
  i : Nat
  x : Option BX
  y : Option BX
  a : List UInt8
  b : List UInt8
  c : List UInt8
  d : List UInt8
  hi : i ≤ n
  h60 : i ≤ 60
  es : a ++ (live x ++ c) = s
  et : b ++ (live y ++ d) = t
  hx : BOk x (31 * i)
  hy : BOk y (31 * i)
theorem take_all {l : List UInt8} {k : Nat} (h : k = l.length) : l.take k = l := List.take_of_length_le (by omega)
theorem new1000 : Meets Tryd.prog 6 [.i64 1000] [] (.ptr 1000 0) [(1000, some ⟨rowW 1000 false 501 502 none none, 51, true⟩)] := by
  have h := new_ev 1000
  rw [show min (max (1000 : Int) 1) 16777216 = 1000 by decide] at h
  exact h
theorem beq_of_eq {a b : List UInt8} (h : a = b) : (a == b) = true := by rw [h]; simp
set_option maxHeartbeats 4000000 in
set_option maxRecDepth 100000 in
theorem netOrder_ev (s t : List UInt8) (hs : s.length ≤ maxLen) (ht : t.length ≤ maxLen) (o : Nat) (l : List Int) (hl : l.length ≤ maxLen) : Meets Tryd.prog 4 [.str s, .str t, .sl 450 o l.length 1] [(450, some ⟨.agg (offC o (l.map AV.i64)), anyT, false⟩)] (.bool true) [] := by
 have hl2 : l.length ≤ 9223372036854775807 := by unfold maxLen at hl; omega
 refine meets_of_ev (nt := 141) Tryd.func4 rfl rfl (Nat.le_of_ble_eq_true rfl) ?_
 refine .seq ?_
 refine .region ?_
 refine .q (op_assign rfl) trivial rfl ?_
 refine .nil ?_
 show Ev _ _ _ _ _
 refine .seq ?_
 refine .seq ?_
 refine .region ?_
 refine .q (op_call (U := []) [] [] (awake25_ev) Tryd.func5 (by kernel_rfl) rfl rfl rfl (trivial) (trivial) (trivial) (trivial) rfl) trivial rfl ?_
 refine .q (op_notB rfl) trivial rfl ?_
 refine .nil ?_
 show Ev _ _ _ _ _
 refine .cond_false rfl (rfl) ?_
 refine .skip ?_
 show Ev _ _ _ _ _
 refine .seq ?_
 refine .region ?_
 refine .q (op_move rfl) trivial rfl ?_
 refine .q (op_call (U := []) [] [] (cut_ev s 200 hs (by decide)) Tryd.func8 (by kernel_rfl) rfl rfl rfl (⟨⟨_, rfl, rfl, rfl⟩, ⟨_, rfl, rfl, rfl⟩, trivial⟩) (trivial) (trivial) (trivial) rfl) trivial rfl ?_
 refine .q (op_move rfl) trivial rfl ?_
 refine .q (op_call (U := []) [] [] (cut_ev t 200 ht (by decide)) Tryd.func8 (by kernel_rfl) rfl rfl rfl (⟨⟨_, rfl, rfl, rfl⟩, ⟨_, rfl, rfl, rfl⟩, trivial⟩) (trivial) (trivial) (trivial) rfl) trivial rfl ?_
 refine .q (op_assign rfl) trivial rfl ?_
 refine .q (op_assign rfl) trivial rfl ?_
 refine .nil ?_
 show Ev _ _ _ _ _
 refine .seq ?_
 refine .region ?_
 refine .a (op_call (U := [(1000, some ⟨rowW 1000 false 501 502 none none, 51, true⟩)]) [] [(1000, 1000)] (new1000) Tryd.func6 (by kernel_rfl) rfl rfl rfl (⟨⟨_, rfl, rfl, rfl⟩, trivial⟩) (trivial) (⟨⟨1000, _, rfl, rfl, rfl, rfl, .inl rfl⟩, trivial⟩) (trivial) rfl) trivial rfl ?_
 refine .q (op_assign rfl) trivial rfl ?_
 refine .nil ?_
 show Ev _ _ _ _ _
 refine .seq ?_
 refine .seq ?_
 refine .region ?_
 refine .q (op_move rfl) trivial rfl ?_
 refine .q (op_eqPtrNil Tryd.underlying24 rfl rfl rfl) trivial rfl ?_
 refine .nil ?_
 show Ev _ _ _ _ _
 refine .cond_false rfl (rfl) ?_
 refine .skip ?_
 show Ev _ _ _ _ _
 refine .seq ?_
 refine .region ?_
 refine .q (op_assign rfl) trivial rfl ?_
 refine .q (op_assign rfl) trivial rfl ?_
 refine .nil ?_
 show Ev _ _ _ _ _
 refine .seq ?_
 refine .region ?_
 refine .q (op_move rfl) trivial rfl ?_
 refine .q (op_move rfl) trivial rfl ?_
 refine .q (op_assign rfl) trivial rfl ?_
 refine .q (op_assign rfl) trivial rfl ?_
 refine .nil ?_
 show Ev _ _ _ _ _
 refine .seq ?_
 refine .seq ?_
 refine .region ?_
 refine .q (op_assign rfl) trivial rfl ?_
 refine .nil ?_
 show Ev _ _ _ _ _
 refine .block ?_
 refine Ev.loop (ι := OI (s.take 200) (t.take 200) l.length) (fun q => ⟨[(0, .str (s.take 200)), (1, .str (t.take 200)), (2, .sl 450 o l.length 1), (7, .ptr 1000 0), (8, .str q.a), (9, .str q.b), (10, .str q.c), (11, .str q.d), (12, .i64 ((q.i : Nat) : Int))], [(1000, some ⟨rowW 1000 false 1008 1016 q.x q.y, 51, true⟩), (1008, bK true q.x), (1016, bK true q.y), (450, some ⟨.agg (offC o (l.map AV.i64)), anyT, false⟩)], 1024⟩) (fun q => 60 - q.i) ⟨0, none, none, [], [], (s.take 200), (t.take 200), Nat.zero_le _, Nat.zero_le _, rfl, rfl, trivial, trivial⟩ (StLe.mk [(1000, 1000)] rfl rfl ⟨⟨_, rfl, by first | rfl | (simp only [AV.ren]; congr 1; omega), rfl⟩, ⟨_, rfl, by first | rfl | (simp only [AV.ren]; congr 1; omega), rfl⟩, ⟨_, rfl, by first | rfl | (simp only [AV.ren]; congr 1; omega), rfl⟩, ⟨_, rfl, by first | rfl | (simp only [AV.ren]; congr 1; omega), rfl⟩, ⟨_, rfl, by first | rfl | (simp only [AV.ren]; congr 1; omega), rfl⟩, ⟨_, rfl, by first | rfl | (simp only [AV.ren]; congr 1; omega), rfl⟩, ⟨_, rfl, by first | rfl | (simp only [AV.ren]; congr 1; omega), rfl⟩, ⟨_, rfl, by first | rfl | (simp only [AV.ren]; congr 1; omega), rfl⟩, ⟨_, rfl, by first | rfl | (simp only [AV.ren]; congr 1; omega), rfl⟩, trivial⟩ ⟨⟨_, _, rfl, rfl, (by rfl), rfl, id, (by rfl)⟩, ⟨_, _, rfl, rfl, offC_ren _ o (show (l.map AV.i64).all AV.flatV = true by rw [List.all_map]; exact List.all_eq_true.2 fun _ _ => rfl), rfl, id, offC_nm _ o (show (l.map AV.i64).all AV.flatV = true by rw [List.all_map]; exact List.all_eq_true.2 fun _ _ => rfl)⟩, trivial⟩) ?_
 rintro ⟨i, x, y, a, b, c, d, hi, h60, es, et, hx, hy⟩
 dsimp only
 have lqes : a.length + ((live x).length + c.length) ≤ 200 := by have h9 := congrArg List.length es; rw [List.length_append, List.length_append, List.length_take] at h9; omega
 have lqet : b.length + ((live y).length + d.length) ≤ 200 := by have h9 := congrArg List.length et; rw [List.length_append, List.length_append, List.length_take] at h9; omega
 obtain ⟨K1, hK1⟩ : ∃ K : Nat, min (l.getD i 0 % 32) (c.length : Int) = (K : Int) := ⟨(min (l.getD i 0 % 32) (c.length : Int)).toNat, (Int.toNat_of_nonneg (by omega)).symm⟩
 obtain ⟨K2, hK2⟩ : ∃ K : Nat, min (l.getD i 0 / 2 ^ 5 % 32) (d.length : Int) = (K : Int) := ⟨(min (l.getD i 0 / 2 ^ 5 % 32) (d.length : Int)).toNat, (Int.toNat_of_nonneg (by omega)).symm⟩
 refine .seq ?_
 refine .seq ?_
 refine .region ?_
 refine .q (op_move rfl) trivial rfl ?_
 refine .q (op_move rfl) trivial rfl ?_
 refine .q (op_len_sl Tryd.underlying42 rfl) trivial rfl ?_
 refine .q (op_cmpI rfl rfl rfl) trivial rfl ?_
 refine .q (op_move rfl) trivial rfl ?_
 refine .split (fun hg38 => ?_) (fun hg38 => ?_)
 ·simp only [decide_eq_true_eq, decide_eq_false_iff_not, beq_iff_eq, bne_iff_ne, ne_eq, beq_eq_false_iff_ne, bne_eq_false_iff_eq] at hg38
  refine .q (op_move rfl) ⟨_, rfl, rfl⟩ rfl ?_
  refine .q (op_cmpI rfl rfl rfl) ⟨_, rfl, rfl⟩ rfl ?_
  refine .q (op_pick_true rfl rfl rfl) trivial rfl ?_
  refine .nil ?_
  show Ev _ _ _ _ _
  refine .cond rfl (fun hc41 => ?_) (fun hc41 => ?_)
  ·simp only [decide_eq_true_eq, decide_eq_false_iff_not, beq_iff_eq, bne_iff_ne, ne_eq, beq_eq_false_iff_ne, bne_eq_false_iff_eq] at hc41
   refine .skip ?_
   show Ev _ _ _ _ _
   refine .seq ?_
   refine .block ?_
   refine .seq ?_
   refine .region ?_
   refine .q (op_move rfl) trivial rfl ?_
   refine .q (op_move rfl) trivial rfl ?_
   refine .q (ap_idx Tryd.underlying42 inf3.sz rfl rfl rfl (show i < l.length by omega)) trivial rfl ?_
   refine .q (op_load Tryd.underlying3 rfl rfl rfl (offC_nth (by rw [List.getElem?_map, get_i 0 (show i < l.length by omega)]; rfl)) (by rw [offC_len, List.length_map]; omega)) trivial rfl ?_
   refine .q (op_mask31 rfl rfl) trivial rfl ?_
   refine .q (op_move rfl) trivial rfl ?_
   refine .q (op_len_str Tryd.underlying9 rfl) trivial rfl ?_
   refine .q (op_minI rfl rfl) trivial rfl ?_
   refine .as (.i64 (K1 : Int)) (congrArg AV.i64 hK1) ?_
   refine .q (op_assign rfl) trivial rfl ?_
   refine .nil ?_
   show Ev _ _ _ _ _
   have lk1 : (c.take K1).length = K1 := by rw [List.length_take]; omega
   refine .seq ?_
   refine Ev.cutp (ι := { x' : Option BX // live x' = live x ++ c.take K1 ∧ BOk x' (31 * i + (c.take K1).length) }) (fun q => ⟨[(0, .str (s.take 200)), (1, .str (t.take 200)), (2, .sl 450 o l.length 1), (7, .ptr 1000 0), (8, .str a), (9, .str b), (10, .str c), (11, .str d), (12, .i64 ((i : Nat) : Int)), (13, .i64 (K1 : Int))], [(1000, some ⟨rowW 1000 false 1008 1016 q.1 y, 51, true⟩), (1008, bK true q.1), (1016, bK true y), (450, some ⟨.agg (offC o (l.map AV.i64)), anyT, false⟩)], 1024⟩) ?_ ?_
   ·refine .region ?_
    refine .q (op_move rfl) trivial rfl ?_
    refine .q (op_move rfl) trivial rfl ?_
    refine .q (op_move rfl) trivial rfl ?_
    refine .q (ap_slice_str_hi Tryd.underlying9 rfl (bnd_some rfl rfl) (show K1 ≤ c.length by omega)) trivial rfl ?_
    refine .ax (op_callX (US := fun (u : PutI x (c.take K1) (31 * i + (c.take K1).length)) => match u with  | .inl q => [(1000, some ⟨rowW 1000 false 1008 1016 q.1 y, 51, true⟩), (1008, bK true q.1), (1024, none)] | .inr q => [(1000, some ⟨rowW 1000 false 1024 1016 q.1 y, 51, true⟩), (1024, bK true q.1), (1008, none)]) [(500, 1000), (501, 1008), (502, 1016)] [(1024, 1104)] (put0X 1000 (by decide) (by decide) x y (31 * i) hx (c.take K1) (by omega) K1 (by omega) (c.take K1) (by rw [List.take_take, Nat.min_self])) Tryd.func9 (by kernel_rfl) rfl rfl (fun u => by cases u <;> rfl) ⟨⟨_, rfl, rfl, rfl⟩, ⟨_, rfl, rfl, rfl⟩, ⟨_, rfl, rfl, rfl⟩, trivial⟩ (⟨⟨_, _, rfl, rfl, rowW_ren _ _ _ _ _ _ _, rfl, id, rowW_nmC _ _ _ _ _ _ _ rfl rfl⟩, HLeC.oc (bK_leC rfl rfl id) trivial⟩) (fun u => match u with | .inl q => ⟨⟨500, _, rfl, rowW_uo rfl rfl, rfl, rowW_nmF _ _ _ _ _ _ _ _ rfl rfl, .inr ⟨rfl, _, rfl, rfl⟩⟩, UOk.oc (bK_uo (c := 501) (x := x) rfl rfl q.2.2.2 rfl) trivial⟩ | .inr q => ⟨⟨500, _, rfl, rowW_uo rfl rfl, rfl, rowW_nmF _ _ _ _ _ _ _ _ rfl rfl, .inr ⟨rfl, _, rfl, rfl⟩⟩, UOk.oc (bK_un (c := 1104) rfl rfl) trivial⟩) (fun u => by cases u <;> exact ⟨(fun _ => ⟨1000, _, rfl, rfl⟩), Cov.oc ⟨1008, _, rfl, rfl⟩ trivial⟩) (fun _ => rfl)) trivial rfl (fun u => ?_)
    rcases u with u | u
    ·show EvL _ _ _ _ _ _
     refine .nil ?_
     exact ⟨⟨u.1, u.2.1, u.2.2.1⟩, StLe.mk [(1000, 1000), (1008, 1008), (1016, 1016)] rfl rfl ⟨⟨_, rfl, by first | rfl | (simp only [AV.ren]; congr 1; omega), rfl⟩, ⟨_, rfl, by first | rfl | (simp only [AV.ren]; congr 1; omega), rfl⟩, ⟨_, rfl, by first | rfl | (simp only [AV.ren]; congr 1; omega), rfl⟩, ⟨_, rfl, by first | rfl | (simp only [AV.ren]; congr 1; omega), rfl⟩, ⟨_, rfl, by first | rfl | (simp only [AV.ren]; congr 1; omega), rfl⟩, ⟨_, rfl, by first | rfl | (simp only [AV.ren]; congr 1; omega), rfl⟩, ⟨_, rfl, by first | rfl | (simp only [AV.ren]; congr 1; omega), rfl⟩, ⟨_, rfl, by first | rfl | (simp only [AV.ren]; congr 1; omega), rfl⟩, ⟨_, rfl, by first | rfl | (simp only [AV.ren]; congr 1; omega), rfl⟩, ⟨_, rfl, by first | rfl | (simp only [AV.ren]; congr 1; omega), rfl⟩, trivial⟩ ⟨⟨_, _, rfl, rfl, rowW_ren _ _ _ _ _ _ _, rfl, id, rowW_nm _ _ _ _ _ _ _ rfl rfl⟩, HLe.oc (bK_le rfl rfl) (HLe.oc (bK_le rfl rfl) ⟨⟨_, _, rfl, rfl, offC_ren _ o (show (l.map AV.i64).all AV.flatV = true by rw [List.all_map]; exact List.all_eq_true.2 fun _ _ => rfl), rfl, id, offC_nm _ o (show (l.map AV.i64).all AV.flatV = true by rw [List.all_map]; exact List.all_eq_true.2 fun _ _ => rfl)⟩, trivial⟩)⟩⟩
    show EvL _ _ _ _ _ _
    refine .nil ?_
    exact ⟨⟨u.1, u.2.1, u.2.2⟩, StLe.mk [(1000, 1000), (1008, 1024), (1016, 1016)] rfl rfl ⟨⟨_, rfl, by first | rfl | (simp only [AV.ren]; congr 1; omega), rfl⟩, ⟨_, rfl, by first | rfl | (simp only [AV.ren]; congr 1; omega), rfl⟩, ⟨_, rfl, by first | rfl | (simp only [AV.ren]; congr 1; omega), rfl⟩, ⟨_, rfl, by first | rfl | (simp only [AV.ren]; congr 1; omega), rfl⟩, ⟨_, rfl, by first | rfl | (simp only [AV.ren]; congr 1; omega), rfl⟩, ⟨_, rfl, by first | rfl | (simp only [AV.ren]; congr 1; omega), rfl⟩, ⟨_, rfl, by first | rfl | (simp only [AV.ren]; congr 1; omega), rfl⟩, ⟨_, rfl, by first | rfl | (simp only [AV.ren]; congr 1; omega), rfl⟩, ⟨_, rfl, by first | rfl | (simp only [AV.ren]; congr 1; omega), rfl⟩, ⟨_, rfl, by first | rfl | (simp only [AV.ren]; congr 1; omega), rfl⟩, trivial⟩ ⟨⟨_, _, rfl, rfl, rowW_ren _ _ _ _ _ _ _, rfl, id, rowW_nm _ _ _ _ _ _ _ rfl rfl⟩, HLe.oc (bK_le rfl rfl) (HLe.oc (bK_le rfl rfl) ⟨⟨_, _, rfl, rfl, offC_ren _ o (show (l.map AV.i64).all AV.flatV = true by rw [List.all_map]; exact List.all_eq_true.2 fun _ _ => rfl), rfl, id, offC_nm _ o (show (l.map AV.i64).all AV.flatV = true by rw [List.all_map]; exact List.all_eq_true.2 fun _ _ => rfl)⟩, trivial⟩)⟩⟩
   ·rintro ⟨x', hx1, hx2⟩
    dsimp only
    have lx1 : (live x').length = (live x).length + (c.take K1).length := by rw [hx1, List.length_append]
    refine .seq ?_
    refine .region ?_
    refine .q (op_move rfl) trivial rfl ?_
    refine .q (op_move rfl) trivial rfl ?_
    refine .q (ap_slice_str_lo Tryd.underlying9 rfl (bnd_some rfl rfl) (show K1 ≤ c.length by omega)) trivial rfl ?_
    refine .q (op_assign rfl) trivial rfl ?_
    refine .nil ?_
    show Ev _ _ _ _ _
    refine .seq ?_
    refine .region ?_
    refine .q (op_move rfl) trivial rfl ?_
    refine .q (op_move rfl) trivial rfl ?_
    refine .q (ap_idx Tryd.underlying42 inf3.sz rfl rfl rfl (show i < l.length by omega)) trivial rfl ?_
    refine .q (op_load Tryd.underlying3 rfl rfl rfl (offC_nth (by rw [List.getElem?_map, get_i 0 (show i < l.length by omega)]; rfl)) (by rw [offC_len, List.length_map]; omega)) trivial rfl ?_
    refine .q (op_shrI rfl rfl rfl (by first | omega | (simp only [AV.len]; omega) | (simp only [AV.len, List.length_set]; omega) | assumption | (simp [AV.len]; done))) trivial rfl ?_
    refine .q (op_mask31 rfl rfl) trivial rfl ?_
    refine .q (op_move rfl) trivial rfl ?_
    refine .q (op_len_str Tryd.underlying9 rfl) trivial rfl ?_
    refine .q (op_minI rfl rfl) trivial rfl ?_
    refine .as (.i64 (K2 : Int)) (congrArg AV.i64 hK2) ?_
    refine .q (op_assign rfl) trivial rfl ?_
    refine .nil ?_
    show Ev _ _ _ _ _
    have lk2 : (d.take K2).length = K2 := by rw [List.length_take]; omega
    refine .seq ?_
    refine Ev.cutp (ι := { x' : Option BX // live x' = live y ++ d.take K2 ∧ BOk x' (31 * i + (d.take K2).length) }) (fun q => ⟨[(0, .str (s.take 200)), (1, .str (t.take 200)), (2, .sl 450 o l.length 1), (7, .ptr 1000 0), (8, .str a), (9, .str b), (10, .str (c.drop K1)), (11, .str d), (12, .i64 ((i : Nat) : Int)), (14, .i64 (K2 : Int))], [(1000, some ⟨rowW 1000 false 1008 1016 x' q.1, 51, true⟩), (1008, bK true x'), (1016, bK true q.1), (450, some ⟨.agg (offC o (l.map AV.i64)), anyT, false⟩)], 1024⟩) ?_ ?_
    ·refine .region ?_
     refine .q (op_move rfl) trivial rfl ?_
     refine .q (op_move rfl) trivial rfl ?_
     refine .q (op_move rfl) trivial rfl ?_
     refine .q (ap_slice_str_hi Tryd.underlying9 rfl (bnd_some rfl rfl) (show K2 ≤ d.length by omega)) trivial rfl ?_
     refine .ax (op_callX (US := fun (u : PutI y (d.take K2) (31 * i + (d.take K2).length)) => match u with  | .inl q => [(1000, some ⟨rowW 1000 false 1008 1016 x' q.1, 51, true⟩), (1016, bK true q.1), (1024, none)] | .inr q => [(1000, some ⟨rowW 1000 false 1008 1024 x' q.1, 51, true⟩), (1024, bK true q.1), (1016, none)]) [(500, 1000), (501, 1008), (502, 1016)] [(1024, 1104)] (put1X 1000 (by decide) (by decide) x' y (31 * i) hy (d.take K2) (by omega) K2 (by omega) (d.take K2) (by rw [List.take_take, Nat.min_self])) Tryd.func9 (by kernel_rfl) rfl rfl (fun u => by cases u <;> rfl) ⟨⟨_, rfl, rfl, rfl⟩, ⟨_, rfl, rfl, rfl⟩, ⟨_, rfl, rfl, rfl⟩, trivial⟩ (⟨⟨_, _, rfl, rfl, rowW_ren _ _ _ _ _ _ _, rfl, id, rowW_nmC _ _ _ _ _ _ _ rfl rfl⟩, HLeC.oc (bK_leC rfl rfl id) trivial⟩) (fun u => match u with | .inl q => ⟨⟨500, _, rfl, rowW_uo rfl rfl, rfl, rowW_nmF _ _ _ _ _ _ _ _ rfl rfl, .inr ⟨rfl, _, rfl, rfl⟩⟩, UOk.oc (bK_uo (c := 502) (x := y) rfl rfl q.2.2.2 rfl) trivial⟩ | .inr q => ⟨⟨500, _, rfl, rowW_uo rfl rfl, rfl, rowW_nmF _ _ _ _ _ _ _ _ rfl rfl, .inr ⟨rfl, _, rfl, rfl⟩⟩, UOk.oc (bK_un (c := 1104) rfl rfl) trivial⟩) (fun u => by cases u <;> exact ⟨(fun _ => ⟨1000, _, rfl, rfl⟩), Cov.oc ⟨1016, _, rfl, rfl⟩ trivial⟩) (fun _ => rfl)) trivial rfl (fun u => ?_)
     rcases u with u | u
     ·show EvL _ _ _ _ _ _
      refine .nil ?_
      exact ⟨⟨u.1, u.2.1, u.2.2.1⟩, StLe.mk [(1000, 1000), (1008, 1008), (1016, 1016)] rfl rfl ⟨⟨_, rfl, by first | rfl | (simp only [AV.ren]; congr 1; omega), rfl⟩, ⟨_, rfl, by first | rfl | (simp only [AV.ren]; congr 1; omega), rfl⟩, ⟨_, rfl, by first | rfl | (simp only [AV.ren]; congr 1; omega), rfl⟩, ⟨_, rfl, by first | rfl | (simp only [AV.ren]; congr 1; omega), rfl⟩, ⟨_, rfl, by first | rfl | (simp only [AV.ren]; congr 1; omega), rfl⟩, ⟨_, rfl, by first | rfl | (simp only [AV.ren]; congr 1; omega), rfl⟩, ⟨_, rfl, by first | rfl | (simp only [AV.ren]; congr 1; omega), rfl⟩, ⟨_, rfl, by first | rfl | (simp only [AV.ren]; congr 1; omega), rfl⟩, ⟨_, rfl, by first | rfl | (simp only [AV.ren]; congr 1; omega), rfl⟩, ⟨_, rfl, by first | rfl | (simp only [AV.ren]; congr 1; omega), rfl⟩, trivial⟩ ⟨⟨_, _, rfl, rfl, rowW_ren _ _ _ _ _ _ _, rfl, id, rowW_nm _ _ _ _ _ _ _ rfl rfl⟩, HLe.oc (bK_le rfl rfl) (HLe.oc (bK_le rfl rfl) ⟨⟨_, _, rfl, rfl, offC_ren _ o (show (l.map AV.i64).all AV.flatV = true by rw [List.all_map]; exact List.all_eq_true.2 fun _ _ => rfl), rfl, id, offC_nm _ o (show (l.map AV.i64).all AV.flatV = true by rw [List.all_map]; exact List.all_eq_true.2 fun _ _ => rfl)⟩, trivial⟩)⟩⟩
     show EvL _ _ _ _ _ _
     refine .nil ?_
     exact ⟨⟨u.1, u.2.1, u.2.2⟩, StLe.mk [(1000, 1000), (1008, 1008), (1016, 1024)] rfl rfl ⟨⟨_, rfl, by first | rfl | (simp only [AV.ren]; congr 1; omega), rfl⟩, ⟨_, rfl, by first | rfl | (simp only [AV.ren]; congr 1; omega), rfl⟩, ⟨_, rfl, by first | rfl | (simp only [AV.ren]; congr 1; omega), rfl⟩, ⟨_, rfl, by first | rfl | (simp only [AV.ren]; congr 1; omega), rfl⟩, ⟨_, rfl, by first | rfl | (simp only [AV.ren]; congr 1; omega), rfl⟩, ⟨_, rfl, by first | rfl | (simp only [AV.ren]; congr 1; omega), rfl⟩, ⟨_, rfl, by first | rfl | (simp only [AV.ren]; congr 1; omega), rfl⟩, ⟨_, rfl, by first | rfl | (simp only [AV.ren]; congr 1; omega), rfl⟩, ⟨_, rfl, by first | rfl | (simp only [AV.ren]; congr 1; omega), rfl⟩, ⟨_, rfl, by first | rfl | (simp only [AV.ren]; congr 1; omega), rfl⟩, trivial⟩ ⟨⟨_, _, rfl, rfl, rowW_ren _ _ _ _ _ _ _, rfl, id, rowW_nm _ _ _ _ _ _ _ rfl rfl⟩, HLe.oc (bK_le rfl rfl) (HLe.oc (bK_le rfl rfl) ⟨⟨_, _, rfl, rfl, offC_ren _ o (show (l.map AV.i64).all AV.flatV = true by rw [List.all_map]; exact List.all_eq_true.2 fun _ _ => rfl), rfl, id, offC_nm _ o (show (l.map AV.i64).all AV.flatV = true by rw [List.all_map]; exact List.all_eq_true.2 fun _ _ => rfl)⟩, trivial⟩)⟩⟩
    ·rintro ⟨y', hy1, hy2⟩
     dsimp only
     have ly1 : (live y').length = (live y).length + (d.take K2).length := by rw [hy1, List.length_append]
     have lk3 := hx2.mono (n := 31 * i + 31) (by omega)
     obtain ⟨K3, hK3⟩ : ∃ K : Nat, (K : Int) = min (max (l.getD i 0 / 2 ^ 10 % 32) 0) ((live x').length : Int) := ⟨(min (max (l.getD i 0 / 2 ^ 10 % 32) 0) ((live x').length : Int)).toNat, Int.toNat_of_nonneg (by omega)⟩
     obtain ⟨K4, hK4⟩ : ∃ K : Nat, (K : Int) = min (max (l.getD i 0 / 2 ^ 15 % 32) 0) ((live y').length : Int) := ⟨(min (max (l.getD i 0 / 2 ^ 15 % 32) 0) ((live y').length : Int)).toNat, Int.toNat_of_nonneg (by omega)⟩
     refine .seq ?_
     refine .region ?_
     refine .q (op_move rfl) trivial rfl ?_
     refine .q (op_move rfl) trivial rfl ?_
     refine .q (ap_slice_str_lo Tryd.underlying9 rfl (bnd_some rfl rfl) (show K2 ≤ d.length by omega)) trivial rfl ?_
     refine .q (op_assign rfl) trivial rfl ?_
     refine .nil ?_
     show Ev _ _ _ _ _
     refine .seq ?_
     refine .region ?_
     refine .q (op_move rfl) trivial rfl ?_
     refine .q (op_move rfl) trivial rfl ?_
     refine .q (op_move rfl) trivial rfl ?_
     refine .q (ap_idx Tryd.underlying42 inf3.sz rfl rfl rfl (show i < l.length by omega)) trivial rfl ?_
     refine .q (op_load Tryd.underlying3 rfl rfl rfl (offC_nth (by rw [List.getElem?_map, get_i 0 (show i < l.length by omega)]; rfl)) (by rw [offC_len, List.length_map]; omega)) trivial rfl ?_
     refine .q (op_shrI rfl rfl rfl (by first | omega | (simp only [AV.len]; omega) | (simp only [AV.len, List.length_set]; omega) | assumption | (simp [AV.len]; done))) trivial rfl ?_
     refine .q (op_mask31 rfl rfl) trivial rfl ?_
     refine .a (op_call (U := [(1000, some ⟨rowW 1000 false 1008 1016 (takeB K3 x') y', 51, true⟩)]) [(500, 1000), (501, 1008), (502, 1016)] [] (take0O 1000 x' y' (31 * i + 31) (by omega) (hx2.mono (by omega)) (l.getD i 0 / 2 ^ 10 % 32) K3 hK3) Tryd.func11 (by kernel_rfl) rfl rfl rfl (⟨⟨_, rfl, rfl, rfl⟩, ⟨_, rfl, rfl, rfl⟩, ⟨_, rfl, rfl, rfl⟩, trivial⟩) (⟨⟨_, _, rfl, rfl, rowW_ren _ _ _ _ _ _ _, rfl, id, rowW_nmC _ _ _ _ _ _ _ rfl rfl⟩, HLeC.oc (bK_leC rfl rfl (fun _ => rfl)) trivial⟩) (⟨⟨500, _, rfl, rowW_uo rfl rfl, rfl, rowW_nmF _ _ _ _ _ _ _ _ rfl rfl, .inr ⟨rfl, _, rfl, rfl⟩⟩, trivial⟩) (⟨(fun _ => ⟨1000, _, rfl, rfl⟩), Cov.ob trivial⟩) rfl) trivial rfl ?_
     refine .q (op_move rfl) trivial rfl ?_
     refine .q (op_extract rfl rfl) trivial rfl ?_
     refine .q (op_extract rfl rfl) trivial rfl ?_
     refine .q (op_assign rfl) trivial rfl ?_
     refine .q (op_assign rfl) trivial rfl ?_
     refine .nil ?_
     show Ev _ _ _ _ _
     refine .seq ?_
     refine .region ?_
     refine .q (op_move rfl) trivial rfl ?_
     refine .q (op_move rfl) trivial rfl ?_
     refine .q (op_move rfl) trivial rfl ?_
     refine .q (ap_idx Tryd.underlying42 inf3.sz rfl rfl rfl (show i < l.length by omega)) trivial rfl ?_
     refine .q (op_load Tryd.underlying3 rfl rfl rfl (offC_nth (by rw [List.getElem?_map, get_i 0 (show i < l.length by omega)]; rfl)) (by rw [offC_len, List.length_map]; omega)) trivial rfl ?_
     refine .q (op_shrI rfl rfl rfl (by first | omega | (simp only [AV.len]; omega) | (simp only [AV.len, List.length_set]; omega) | assumption | (simp [AV.len]; done))) trivial rfl ?_
     refine .q (op_mask31 rfl rfl) trivial rfl ?_
     refine .a (op_call (U := [(1000, some ⟨rowW 1000 false 1008 1016 (takeB K3 x') (takeB K4 y'), 51, true⟩)]) [(500, 1000), (501, 1008), (502, 1016)] [] (take1O 1000 (takeB K3 x') y' (31 * i + 31) (by omega) (hy2.mono (by omega)) (l.getD i 0 / 2 ^ 15 % 32) K4 hK4) Tryd.func11 (by kernel_rfl) rfl rfl rfl (⟨⟨_, rfl, rfl, rfl⟩, ⟨_, rfl, rfl, rfl⟩, ⟨_, rfl, rfl, rfl⟩, trivial⟩) (⟨⟨_, _, rfl, rfl, rowW_ren _ _ _ _ _ _ _, rfl, id, rowW_nmC _ _ _ _ _ _ _ rfl rfl⟩, HLeC.oc (bK_leC rfl rfl (fun _ => rfl)) trivial⟩) (⟨⟨500, _, rfl, rowW_uo rfl rfl, rfl, rowW_nmF _ _ _ _ _ _ _ _ rfl rfl, .inr ⟨rfl, _, rfl, rfl⟩⟩, trivial⟩) (⟨(fun _ => ⟨1000, _, rfl, rfl⟩), Cov.ob trivial⟩) rfl) trivial rfl ?_
     refine .q (op_move rfl) trivial rfl ?_
     refine .q (op_extract rfl rfl) trivial rfl ?_
     refine .q (op_extract rfl rfl) trivial rfl ?_
     refine .q (op_assign rfl) trivial rfl ?_
     refine .q (op_assign rfl) trivial rfl ?_
     refine .nil ?_
     show Ev _ _ _ _ _
     refine .region ?_
     refine .q (op_move rfl) trivial rfl ?_
     refine .q (op_move rfl) trivial rfl ?_
     refine .q (op_addS rfl rfl (by rw [List.length_take]; omega)) trivial rfl ?_
     refine .q (op_move rfl) trivial rfl ?_
     refine .q (op_move rfl) trivial rfl ?_
     refine .q (op_addS rfl rfl (by rw [List.length_take]; omega)) trivial rfl ?_
     refine .q (op_assign rfl) trivial rfl ?_
     refine .q (op_assign rfl) trivial rfl ?_
     refine .nil ?_
     show Ev _ _ _ _ _
     refine .region ?_
     refine .q (op_move rfl) trivial rfl ?_
     refine .q (op_addI rfl rfl ⟨by omega, by omega⟩) trivial rfl ?_
     refine .q (op_assign rfl) trivial rfl ?_
     refine .nil ?_
     exact ⟨⟨i + 1, takeB K3 x', takeB K4 y', a ++ (live x').take K3, b ++ (live y').take K4, c.drop K1, d.drop K2, by omega, by omega, by rw [live_takeB, ← es, hx1]; simp only [List.append_assoc]; rw [← List.append_assoc (List.take K3 _), List.take_append_drop, List.append_assoc, List.take_append_drop], by rw [live_takeB, ← et, hy1]; simp only [List.append_assoc]; rw [← List.append_assoc (List.take K4 _), List.take_append_drop, List.append_assoc, List.take_append_drop], takeB_ok (hx2.mono (by omega)) (by omega), takeB_ok (hy2.mono (by omega)) (by omega)⟩, by show 60 - (i + 1) < 60 - i; omega, StLe.mk [(1000, 1000), (1008, 1008), (1016, 1016)] rfl rfl ⟨⟨_, rfl, by first | rfl | (simp only [AV.ren]; congr 1; omega), rfl⟩, ⟨_, rfl, by first | rfl | (simp only [AV.ren]; congr 1; omega), rfl⟩, ⟨_, rfl, by first | rfl | (simp only [AV.ren]; congr 1; omega), rfl⟩, ⟨_, rfl, by first | rfl | (simp only [AV.ren]; congr 1; omega), rfl⟩, ⟨_, rfl, by first | rfl | (simp only [AV.ren]; congr 1; omega), rfl⟩, ⟨_, rfl, by first | rfl | (simp only [AV.ren]; congr 1; omega), rfl⟩, ⟨_, rfl, by first | rfl | (simp only [AV.ren]; congr 1; omega), rfl⟩, ⟨_, rfl, by first | rfl | (simp only [AV.ren]; congr 1; omega), rfl⟩, ⟨_, rfl, by first | rfl | (simp only [AV.ren]; congr 1; omega), rfl⟩, trivial⟩ ⟨⟨_, _, rfl, rfl, rowW_ren _ _ _ _ _ _ _, rfl, id, rowW_nm _ _ _ _ _ _ _ rfl rfl⟩, HLe.oc (bK_le rfl (bK_takeB _ _ _).symm) (HLe.oc (bK_le rfl (bK_takeB _ _ _).symm) ⟨⟨_, _, rfl, rfl, offC_ren _ o (show (l.map AV.i64).all AV.flatV = true by rw [List.all_map]; exact List.all_eq_true.2 fun _ _ => rfl), rfl, id, offC_nm _ o (show (l.map AV.i64).all AV.flatV = true by rw [List.all_map]; exact List.all_eq_true.2 fun _ _ => rfl)⟩, trivial⟩)⟩⟩
  ·simp only [decide_eq_true_eq, decide_eq_false_iff_not, beq_iff_eq, bne_iff_ne, ne_eq, beq_eq_false_iff_ne, bne_eq_false_iff_eq] at hc41
   refine .exit ?_
   show Ev _ _ _ _ _
   refine .seq ?_
   refine Ev.cutp (ι := { x' : Option BX // live x' = live x ++ c ∧ BOk x' (31 * i + c.length) }) (fun q => ⟨[(0, .str (s.take 200)), (1, .str (t.take 200)), (2, .sl 450 o l.length 1), (7, .ptr 1000 0), (8, .str a), (9, .str b), (10, .str c), (11, .str d), (12, .i64 ((i : Nat) : Int))], [(1000, some ⟨rowW 1000 false 1008 1016 q.1 y, 51, true⟩), (1008, bK true q.1), (1016, bK true y), (450, some ⟨.agg (offC o (l.map AV.i64)), anyT, false⟩)], 1024⟩) ?_ ?_
   ·refine .region ?_
    refine .q (op_move rfl) trivial rfl ?_
    refine .q (op_move rfl) trivial rfl ?_
    refine .ax (op_callX (US := fun (u : PutI x (c) (31 * i + c.length)) => match u with  | .inl q => [(1000, some ⟨rowW 1000 false 1008 1016 q.1 y, 51, true⟩), (1008, bK true q.1), (1024, none)] | .inr q => [(1000, some ⟨rowW 1000 false 1024 1016 q.1 y, 51, true⟩), (1024, bK true q.1), (1008, none)]) [(500, 1000), (501, 1008), (502, 1016)] [(1024, 1104)] (put0X 1000 (by decide) (by decide) x y (31 * i) hx c (by omega) c.length (by omega) c (take_all rfl)) Tryd.func9 (by kernel_rfl) rfl rfl (fun u => by cases u <;> rfl) ⟨⟨_, rfl, rfl, rfl⟩, ⟨_, rfl, rfl, rfl⟩, ⟨_, rfl, rfl, rfl⟩, trivial⟩ (⟨⟨_, _, rfl, rfl, rowW_ren _ _ _ _ _ _ _, rfl, id, rowW_nmC _ _ _ _ _ _ _ rfl rfl⟩, HLeC.oc (bK_leC rfl rfl id) trivial⟩) (fun u => match u with | .inl q => ⟨⟨500, _, rfl, rowW_uo rfl rfl, rfl, rowW_nmF _ _ _ _ _ _ _ _ rfl rfl, .inr ⟨rfl, _, rfl, rfl⟩⟩, UOk.oc (bK_uo (c := 501) (x := x) rfl rfl q.2.2.2 rfl) trivial⟩ | .inr q => ⟨⟨500, _, rfl, rowW_uo rfl rfl, rfl, rowW_nmF _ _ _ _ _ _ _ _ rfl rfl, .inr ⟨rfl, _, rfl, rfl⟩⟩, UOk.oc (bK_un (c := 1104) rfl rfl) trivial⟩) (fun u => by cases u <;> exact ⟨(fun _ => ⟨1000, _, rfl, rfl⟩), Cov.oc ⟨1008, _, rfl, rfl⟩ trivial⟩) (fun _ => rfl)) trivial rfl (fun u => ?_)
    rcases u with u | u
    ·show EvL _ _ _ _ _ _
     refine .nil ?_
     exact ⟨⟨u.1, u.2.1, u.2.2.1⟩, StLe.mk [(1000, 1000), (1008, 1008), (1016, 1016)] rfl rfl ⟨⟨_, rfl, by first | rfl | (simp only [AV.ren]; congr 1; omega), rfl⟩, ⟨_, rfl, by first | rfl | (simp only [AV.ren]; congr 1; omega), rfl⟩, ⟨_, rfl, by first | rfl | (simp only [AV.ren]; congr 1; omega), rfl⟩, ⟨_, rfl, by first | rfl | (simp only [AV.ren]; congr 1; omega), rfl⟩, ⟨_, rfl, by first | rfl | (simp only [AV.ren]; congr 1; omega), rfl⟩, ⟨_, rfl, by first | rfl | (simp only [AV.ren]; congr 1; omega), rfl⟩, ⟨_, rfl, by first | rfl | (simp only [AV.ren]; congr 1; omega), rfl⟩, ⟨_, rfl, by first | rfl | (simp only [AV.ren]; congr 1; omega), rfl⟩, ⟨_, rfl, by first | rfl | (simp only [AV.ren]; congr 1; omega), rfl⟩, trivial⟩ ⟨⟨_, _, rfl, rfl, rowW_ren _ _ _ _ _ _ _, rfl, id, rowW_nm _ _ _ _ _ _ _ rfl rfl⟩, HLe.oc (bK_le rfl rfl) (HLe.oc (bK_le rfl rfl) ⟨⟨_, _, rfl, rfl, offC_ren _ o (show (l.map AV.i64).all AV.flatV = true by rw [List.all_map]; exact List.all_eq_true.2 fun _ _ => rfl), rfl, id, offC_nm _ o (show (l.map AV.i64).all AV.flatV = true by rw [List.all_map]; exact List.all_eq_true.2 fun _ _ => rfl)⟩, trivial⟩)⟩⟩
    show EvL _ _ _ _ _ _
    refine .nil ?_
    exact ⟨⟨u.1, u.2.1, u.2.2⟩, StLe.mk [(1000, 1000), (1008, 1024), (1016, 1016)] rfl rfl ⟨⟨_, rfl, by first | rfl | (simp only [AV.ren]; congr 1; omega), rfl⟩, ⟨_, rfl, by first | rfl | (simp only [AV.ren]; congr 1; omega), rfl⟩, ⟨_, rfl, by first | rfl | (simp only [AV.ren]; congr 1; omega), rfl⟩, ⟨_, rfl, by first | rfl | (simp only [AV.ren]; congr 1; omega), rfl⟩, ⟨_, rfl, by first | rfl | (simp only [AV.ren]; congr 1; omega), rfl⟩, ⟨_, rfl, by first | rfl | (simp only [AV.ren]; congr 1; omega), rfl⟩, ⟨_, rfl, by first | rfl | (simp only [AV.ren]; congr 1; omega), rfl⟩, ⟨_, rfl, by first | rfl | (simp only [AV.ren]; congr 1; omega), rfl⟩, ⟨_, rfl, by first | rfl | (simp only [AV.ren]; congr 1; omega), rfl⟩, trivial⟩ ⟨⟨_, _, rfl, rfl, rowW_ren _ _ _ _ _ _ _, rfl, id, rowW_nm _ _ _ _ _ _ _ rfl rfl⟩, HLe.oc (bK_le rfl rfl) (HLe.oc (bK_le rfl rfl) ⟨⟨_, _, rfl, rfl, offC_ren _ o (show (l.map AV.i64).all AV.flatV = true by rw [List.all_map]; exact List.all_eq_true.2 fun _ _ => rfl), rfl, id, offC_nm _ o (show (l.map AV.i64).all AV.flatV = true by rw [List.all_map]; exact List.all_eq_true.2 fun _ _ => rfl)⟩, trivial⟩)⟩⟩
   ·rintro ⟨x', hx1, hx2⟩
    dsimp only
    have lx1 : (live x').length = (live x).length + (c).length := by rw [hx1, List.length_append]
    refine .seq ?_
    refine Ev.cutp (ι := { x' : Option BX // live x' = live y ++ d ∧ BOk x' (31 * i + d.length) }) (fun q => ⟨[(0, .str (s.take 200)), (1, .str (t.take 200)), (2, .sl 450 o l.length 1), (7, .ptr 1000 0), (8, .str a), (9, .str b), (10, .str c), (11, .str d), (12, .i64 ((i : Nat) : Int))], [(1000, some ⟨rowW 1000 false 1008 1016 x' q.1, 51, true⟩), (1008, bK true x'), (1016, bK true q.1), (450, some ⟨.agg (offC o (l.map AV.i64)), anyT, false⟩)], 1024⟩) ?_ ?_
    ·refine .region ?_
     refine .q (op_move rfl) trivial rfl ?_
     refine .q (op_move rfl) trivial rfl ?_
     refine .ax (op_callX (US := fun (u : PutI y (d) (31 * i + d.length)) => match u with  | .inl q => [(1000, some ⟨rowW 1000 false 1008 1016 x' q.1, 51, true⟩), (1016, bK true q.1), (1024, none)] | .inr q => [(1000, some ⟨rowW 1000 false 1008 1024 x' q.1, 51, true⟩), (1024, bK true q.1), (1016, none)]) [(500, 1000), (501, 1008), (502, 1016)] [(1024, 1104)] (put1X 1000 (by decide) (by decide) x' y (31 * i) hy d (by omega) d.length (by omega) d (take_all rfl)) Tryd.func9 (by kernel_rfl) rfl rfl (fun u => by cases u <;> rfl) ⟨⟨_, rfl, rfl, rfl⟩, ⟨_, rfl, rfl, rfl⟩, ⟨_, rfl, rfl, rfl⟩, trivial⟩ (⟨⟨_, _, rfl, rfl, rowW_ren _ _ _ _ _ _ _, rfl, id, rowW_nmC _ _ _ _ _ _ _ rfl rfl⟩, HLeC.oc (bK_leC rfl rfl id) trivial⟩) (fun u => match u with | .inl q => ⟨⟨500, _, rfl, rowW_uo rfl rfl, rfl, rowW_nmF _ _ _ _ _ _ _ _ rfl rfl, .inr ⟨rfl, _, rfl, rfl⟩⟩, UOk.oc (bK_uo (c := 502) (x := y) rfl rfl q.2.2.2 rfl) trivial⟩ | .inr q => ⟨⟨500, _, rfl, rowW_uo rfl rfl, rfl, rowW_nmF _ _ _ _ _ _ _ _ rfl rfl, .inr ⟨rfl, _, rfl, rfl⟩⟩, UOk.oc (bK_un (c := 1104) rfl rfl) trivial⟩) (fun u => by cases u <;> exact ⟨(fun _ => ⟨1000, _, rfl, rfl⟩), Cov.oc ⟨1016, _, rfl, rfl⟩ trivial⟩) (fun _ => rfl)) trivial rfl (fun u => ?_)
     rcases u with u | u
     ·show EvL _ _ _ _ _ _
      refine .nil ?_
      exact ⟨⟨u.1, u.2.1, u.2.2.1⟩, StLe.mk [(1000, 1000), (1008, 1008), (1016, 1016)] rfl rfl ⟨⟨_, rfl, by first | rfl | (simp only [AV.ren]; congr 1; omega), rfl⟩, ⟨_, rfl, by first | rfl | (simp only [AV.ren]; congr 1; omega), rfl⟩, ⟨_, rfl, by first | rfl | (simp only [AV.ren]; congr 1; omega), rfl⟩, ⟨_, rfl, by first | rfl | (simp only [AV.ren]; congr 1; omega), rfl⟩, ⟨_, rfl, by first | rfl | (simp only [AV.ren]; congr 1; omega), rfl⟩, ⟨_, rfl, by first | rfl | (simp only [AV.ren]; congr 1; omega), rfl⟩, ⟨_, rfl, by first | rfl | (simp only [AV.ren]; congr 1; omega), rfl⟩, ⟨_, rfl, by first | rfl | (simp only [AV.ren]; congr 1; omega), rfl⟩, ⟨_, rfl, by first | rfl | (simp only [AV.ren]; congr 1; omega), rfl⟩, trivial⟩ ⟨⟨_, _, rfl, rfl, rowW_ren _ _ _ _ _ _ _, rfl, id, rowW_nm _ _ _ _ _ _ _ rfl rfl⟩, HLe.oc (bK_le rfl rfl) (HLe.oc (bK_le rfl rfl) ⟨⟨_, _, rfl, rfl, offC_ren _ o (show (l.map AV.i64).all AV.flatV = true by rw [List.all_map]; exact List.all_eq_true.2 fun _ _ => rfl), rfl, id, offC_nm _ o (show (l.map AV.i64).all AV.flatV = true by rw [List.all_map]; exact List.all_eq_true.2 fun _ _ => rfl)⟩, trivial⟩)⟩⟩
     show EvL _ _ _ _ _ _
     refine .nil ?_
     exact ⟨⟨u.1, u.2.1, u.2.2⟩, StLe.mk [(1000, 1000), (1008, 1008), (1016, 1024)] rfl rfl ⟨⟨_, rfl, by first | rfl | (simp only [AV.ren]; congr 1; omega), rfl⟩, ⟨_, rfl, by first | rfl | (simp only [AV.ren]; congr 1; omega), rfl⟩, ⟨_, rfl, by first | rfl | (simp only [AV.ren]; congr 1; omega), rfl⟩, ⟨_, rfl, by first | rfl | (simp only [AV.ren]; congr 1; omega), rfl⟩, ⟨_, rfl, by first | rfl | (simp only [AV.ren]; congr 1; omega), rfl⟩, ⟨_, rfl, by first | rfl | (simp only [AV.ren]; congr 1; omega), rfl⟩, ⟨_, rfl, by first | rfl | (simp only [AV.ren]; congr 1; omega), rfl⟩, ⟨_, rfl, by first | rfl | (simp only [AV.ren]; congr 1; omega), rfl⟩, ⟨_, rfl, by first | rfl | (simp only [AV.ren]; congr 1; omega), rfl⟩, trivial⟩ ⟨⟨_, _, rfl, rfl, rowW_ren _ _ _ _ _ _ _, rfl, id, rowW_nm _ _ _ _ _ _ _ rfl rfl⟩, HLe.oc (bK_le rfl rfl) (HLe.oc (bK_le rfl rfl) ⟨⟨_, _, rfl, rfl, offC_ren _ o (show (l.map AV.i64).all AV.flatV = true by rw [List.all_map]; exact List.all_eq_true.2 fun _ _ => rfl), rfl, id, offC_nm _ o (show (l.map AV.i64).all AV.flatV = true by rw [List.all_map]; exact List.all_eq_true.2 fun _ _ => rfl)⟩, trivial⟩)⟩⟩
    ·rintro ⟨y', hy1, hy2⟩
     dsimp only
     have ly1 : (live y').length = (live y).length + (d).length := by rw [hy1, List.length_append]
     refine .seq ?_
     refine .region ?_
     refine .q (op_move rfl) trivial rfl ?_
     refine .a (op_call (U := [(1000, some ⟨rowW 1000 false 1008 1016 (takeB (live x').length x') y', 51, true⟩)]) [(500, 1000), (501, 1008), (502, 1016)] [] (take0O 1000 x' y' (31 * i + c.length) (by omega) hx2 1000 (live x').length (by omega)) Tryd.func11 (by kernel_rfl) rfl rfl rfl (⟨⟨_, rfl, rfl, rfl⟩, ⟨_, rfl, rfl, rfl⟩, ⟨_, rfl, rfl, rfl⟩, trivial⟩) (⟨⟨_, _, rfl, rfl, rowW_ren _ _ _ _ _ _ _, rfl, id, rowW_nmC _ _ _ _ _ _ _ rfl rfl⟩, HLeC.oc (bK_leC rfl rfl (fun _ => rfl)) trivial⟩) (⟨⟨500, _, rfl, rowW_uo rfl rfl, rfl, rowW_nmF _ _ _ _ _ _ _ _ rfl rfl, .inr ⟨rfl, _, rfl, rfl⟩⟩, trivial⟩) (⟨(fun _ => ⟨1000, _, rfl, rfl⟩), Cov.ob trivial⟩) rfl) trivial rfl ?_
     refine .q (op_move rfl) trivial rfl ?_
     refine .q (op_extract rfl rfl) trivial rfl ?_
     refine .q (op_extract rfl rfl) trivial rfl ?_
     refine .q (op_assign rfl) trivial rfl ?_
     refine .q (op_assign rfl) trivial rfl ?_
     refine .nil ?_
     show Ev _ _ _ _ _
     refine .seq ?_
     refine .region ?_
     refine .q (op_move rfl) trivial rfl ?_
     refine .a (op_call (U := [(1000, some ⟨rowW 1000 false 1008 1016 (takeB (live x').length x') (takeB (live y').length y'), 51, true⟩)]) [(500, 1000), (501, 1008), (502, 1016)] [] (take1O 1000 (takeB (live x').length x') y' (31 * i + d.length) (by omega) hy2 1000 (live y').length (by omega)) Tryd.func11 (by kernel_rfl) rfl rfl rfl (⟨⟨_, rfl, rfl, rfl⟩, ⟨_, rfl, rfl, rfl⟩, ⟨_, rfl, rfl, rfl⟩, trivial⟩) (⟨⟨_, _, rfl, rfl, rowW_ren _ _ _ _ _ _ _, rfl, id, rowW_nmC _ _ _ _ _ _ _ rfl rfl⟩, HLeC.oc (bK_leC rfl rfl (fun _ => rfl)) trivial⟩) (⟨⟨500, _, rfl, rowW_uo rfl rfl, rfl, rowW_nmF _ _ _ _ _ _ _ _ rfl rfl, .inr ⟨rfl, _, rfl, rfl⟩⟩, trivial⟩) (⟨(fun _ => ⟨1000, _, rfl, rfl⟩), Cov.ob trivial⟩) rfl) trivial rfl ?_
     refine .q (op_move rfl) trivial rfl ?_
     refine .q (op_extract rfl rfl) trivial rfl ?_
     refine .q (op_extract rfl rfl) trivial rfl ?_
     refine .q (op_assign rfl) trivial rfl ?_
     refine .q (op_assign rfl) trivial rfl ?_
     refine .nil ?_
     show Ev _ _ _ _ _
     refine .seq ?_
     refine .region ?_
     refine .q (op_move rfl) trivial rfl ?_
     refine .q (op_move rfl) trivial rfl ?_
     refine .q (op_addS rfl rfl (by rw [List.length_take]; omega)) trivial rfl ?_
     refine .q (op_move rfl) trivial rfl ?_
     refine .q (op_eqS rfl rfl rfl) trivial rfl ?_
     refine .q (op_move rfl) trivial rfl ?_
     refine .know (b' := true) (beq_of_eq (by rw [take_all rfl, hx1, ← es])) ?_
     refine .q (op_move rfl) ⟨_, rfl, rfl⟩ rfl ?_
     refine .q (op_move rfl) ⟨_, rfl, rfl⟩ rfl ?_
     refine .q (op_addS rfl rfl (by rw [List.length_take]; omega)) ⟨_, rfl, rfl⟩ rfl ?_
     refine .q (op_move rfl) ⟨_, rfl, rfl⟩ rfl ?_
     refine .q (op_eqS rfl rfl rfl) ⟨_, rfl, rfl⟩ rfl ?_
     refine .q (op_pick_true rfl rfl rfl) trivial rfl ?_
     refine .q (op_move rfl) trivial rfl ?_
     refine .know (b' := true) (beq_of_eq (by rw [take_all rfl, hy1, ← et])) ?_
     refine .q (op_move rfl) ⟨_, rfl, rfl⟩ rfl ?_
     refine .q (op_call (U := []) [(500, 1000), (501, 1008), (502, 1016)] [] (wlen0 1000 (takeB (live x').length x') (takeB (live y').length y') (31 * i + c.length) (by omega) (takeB_ok hx2 (Nat.le_refl _))) Tryd.func14 (by kernel_rfl) rfl rfl rfl (⟨⟨_, rfl, rfl, rfl⟩, ⟨_, rfl, rfl, rfl⟩, trivial⟩) (⟨⟨_, _, rfl, rfl, rowW_ren _ _ _ _ _ _ _, rfl, (fun h => by cases h), rowW_nmC _ _ _ _ _ _ _ rfl rfl⟩, trivial⟩) (trivial) (⟨(fun h => by cases h), trivial⟩) rfl) ⟨_, rfl, rfl⟩ rfl ?_
     refine .as (.i64 0) (congrArg AV.i64 (by rw [live_takeB, List.drop_length]; rfl)) ?_
     refine .q (op_move rfl) ⟨_, rfl, rfl⟩ rfl ?_
     refine .q (op_call (U := []) [(500, 1000), (501, 1008), (502, 1016)] [] (wlen1 1000 (takeB (live x').length x') (takeB (live y').length y') (31 * i + d.length) (by omega) (takeB_ok hy2 (Nat.le_refl _))) Tryd.func14 (by kernel_rfl) rfl rfl rfl (⟨⟨_, rfl, rfl, rfl⟩, ⟨_, rfl, rfl, rfl⟩, trivial⟩) (⟨⟨_, _, rfl, rfl, rowW_ren _ _ _ _ _ _ _, rfl, (fun h => by cases h), rowW_nmC _ _ _ _ _ _ _ rfl rfl⟩, trivial⟩) (trivial) (⟨(fun h => by cases h), trivial⟩) rfl) ⟨_, rfl, rfl⟩ rfl ?_
     refine .as (.i64 0) (congrArg AV.i64 (by rw [live_takeB, List.drop_length]; rfl)) ?_
     refine .q (op_addI rfl rfl ⟨by omega, by omega⟩) ⟨_, rfl, rfl⟩ rfl ?_
     refine .q (op_cmpI rfl rfl rfl) ⟨_, rfl, rfl⟩ rfl ?_
     refine .q (op_pick_true rfl rfl rfl) trivial rfl ?_
     refine .q (op_assign rfl) trivial rfl ?_
     refine .nil ?_
     show Ev _ _ _ _ _
     refine .ret ?_
     show RetOk _ _ _ _ _ _ _
     exact ret1v rfl (.inl rfl) rfl (rfl) trivial
 ·simp only [decide_eq_true_eq, decide_eq_false_iff_not, beq_iff_eq, bne_iff_ne, ne_eq, beq_eq_false_iff_ne, bne_eq_false_iff_eq] at hg38
  refine .no ⟨_, rfl, rfl⟩ rfl ?_
  refine .no ⟨_, rfl, rfl⟩ rfl ?_
  refine .q (op_pick_false rfl rfl rfl) trivial rfl ?_
  refine .nil ?_
  show Ev _ _ _ _ _
  refine .cond_false rfl rfl ?_
  refine .exit ?_
  show Ev _ _ _ _ _
  refine .seq ?_
  refine Ev.cutp (ι := { x' : Option BX // live x' = live x ++ c ∧ BOk x' (31 * i + c.length) }) (fun q => ⟨[(0, .str (s.take 200)), (1, .str (t.take 200)), (2, .sl 450 o l.length 1), (7, .ptr 1000 0), (8, .str a), (9, .str b), (10, .str c), (11, .str d), (12, .i64 ((i : Nat) : Int))], [(1000, some ⟨rowW 1000 false 1008 1016 q.1 y, 51, true⟩), (1008, bK true q.1), (1016, bK true y), (450, some ⟨.agg (offC o (l.map AV.i64)), anyT, false⟩)], 1024⟩) ?_ ?_
  ·refine .region ?_
   refine .q (op_move rfl) trivial rfl ?_
   refine .q (op_move rfl) trivial rfl ?_
   refine .ax (op_callX (US := fun (u : PutI x (c) (31 * i + c.length)) => match u with  | .inl q => [(1000, some ⟨rowW 1000 false 1008 1016 q.1 y, 51, true⟩), (1008, bK true q.1), (1024, none)] | .inr q => [(1000, some ⟨rowW 1000 false 1024 1016 q.1 y, 51, true⟩), (1024, bK true q.1), (1008, none)]) [(500, 1000), (501, 1008), (502, 1016)] [(1024, 1104)] (put0X 1000 (by decide) (by decide) x y (31 * i) hx c (by omega) c.length (by omega) c (take_all rfl)) Tryd.func9 (by kernel_rfl) rfl rfl (fun u => by cases u <;> rfl) ⟨⟨_, rfl, rfl, rfl⟩, ⟨_, rfl, rfl, rfl⟩, ⟨_, rfl, rfl, rfl⟩, trivial⟩ (⟨⟨_, _, rfl, rfl, rowW_ren _ _ _ _ _ _ _, rfl, id, rowW_nmC _ _ _ _ _ _ _ rfl rfl⟩, HLeC.oc (bK_leC rfl rfl id) trivial⟩) (fun u => match u with | .inl q => ⟨⟨500, _, rfl, rowW_uo rfl rfl, rfl, rowW_nmF _ _ _ _ _ _ _ _ rfl rfl, .inr ⟨rfl, _, rfl, rfl⟩⟩, UOk.oc (bK_uo (c := 501) (x := x) rfl rfl q.2.2.2 rfl) trivial⟩ | .inr q => ⟨⟨500, _, rfl, rowW_uo rfl rfl, rfl, rowW_nmF _ _ _ _ _ _ _ _ rfl rfl, .inr ⟨rfl, _, rfl, rfl⟩⟩, UOk.oc (bK_un (c := 1104) rfl rfl) trivial⟩) (fun u => by cases u <;> exact ⟨(fun _ => ⟨1000, _, rfl, rfl⟩), Cov.oc ⟨1008, _, rfl, rfl⟩ trivial⟩) (fun _ => rfl)) trivial rfl (fun u => ?_)
   rcases u with u | u
   ·show EvL _ _ _ _ _ _
    refine .nil ?_
    exact ⟨⟨u.1, u.2.1, u.2.2.1⟩, StLe.mk [(1000, 1000), (1008, 1008), (1016, 1016)] rfl rfl ⟨⟨_, rfl, by first | rfl | (simp only [AV.ren]; congr 1; omega), rfl⟩, ⟨_, rfl, by first | rfl | (simp only [AV.ren]; congr 1; omega), rfl⟩, ⟨_, rfl, by first | rfl | (simp only [AV.ren]; congr 1; omega), rfl⟩, ⟨_, rfl, by first | rfl | (simp only [AV.ren]; congr 1; omega), rfl⟩, ⟨_, rfl, by first | rfl | (simp only [AV.ren]; congr 1; omega), rfl⟩, ⟨_, rfl, by first | rfl | (simp only [AV.ren]; congr 1; omega), rfl⟩, ⟨_, rfl, by first | rfl | (simp only [AV.ren]; congr 1; omega), rfl⟩, ⟨_, rfl, by first | rfl | (simp only [AV.ren]; congr 1; omega), rfl⟩, ⟨_, rfl, by first | rfl | (simp only [AV.ren]; congr 1; omega), rfl⟩, trivial⟩ ⟨⟨_, _, rfl, rfl, rowW_ren _ _ _ _ _ _ _, rfl, id, rowW_nm _ _ _ _ _ _ _ rfl rfl⟩, HLe.oc (bK_le rfl rfl) (HLe.oc (bK_le rfl rfl) ⟨⟨_, _, rfl, rfl, offC_ren _ o (show (l.map AV.i64).all AV.flatV = true by rw [List.all_map]; exact List.all_eq_true.2 fun _ _ => rfl), rfl, id, offC_nm _ o (show (l.map AV.i64).all AV.flatV = true by rw [List.all_map]; exact List.all_eq_true.2 fun _ _ => rfl)⟩, trivial⟩)⟩⟩
   show EvL _ _ _ _ _ _
   refine .nil ?_
   exact ⟨⟨u.1, u.2.1, u.2.2⟩, StLe.mk [(1000, 1000), (1008, 1024), (1016, 1016)] rfl rfl ⟨⟨_, rfl, by first | rfl | (simp only [AV.ren]; congr 1; omega), rfl⟩, ⟨_, rfl, by first | rfl | (simp only [AV.ren]; congr 1; omega), rfl⟩, ⟨_, rfl, by first | rfl | (simp only [AV.ren]; congr 1; omega), rfl⟩, ⟨_, rfl, by first | rfl | (simp only [AV.ren]; congr 1; omega), rfl⟩, ⟨_, rfl, by first | rfl | (simp only [AV.ren]; congr 1; omega), rfl⟩, ⟨_, rfl, by first | rfl | (simp only [AV.ren]; congr 1; omega), rfl⟩, ⟨_, rfl, by first | rfl | (simp only [AV.ren]; congr 1; omega), rfl⟩, ⟨_, rfl, by first | rfl | (simp only [AV.ren]; congr 1; omega), rfl⟩, ⟨_, rfl, by first | rfl | (simp only [AV.ren]; congr 1; omega), rfl⟩, trivial⟩ ⟨⟨_, _, rfl, rfl, rowW_ren _ _ _ _ _ _ _, rfl, id, rowW_nm _ _ _ _ _ _ _ rfl rfl⟩, HLe.oc (bK_le rfl rfl) (HLe.oc (bK_le rfl rfl) ⟨⟨_, _, rfl, rfl, offC_ren _ o (show (l.map AV.i64).all AV.flatV = true by rw [List.all_map]; exact List.all_eq_true.2 fun _ _ => rfl), rfl, id, offC_nm _ o (show (l.map AV.i64).all AV.flatV = true by rw [List.all_map]; exact List.all_eq_true.2 fun _ _ => rfl)⟩, trivial⟩)⟩⟩
  ·rintro ⟨x', hx1, hx2⟩
   dsimp only
   have lx1 : (live x').length = (live x).length + (c).length := by rw [hx1, List.length_append]
   refine .seq ?_
   refine Ev.cutp (ι := { x' : Option BX // live x' = live y ++ d ∧ BOk x' (31 * i + d.length) }) (fun q => ⟨[(0, .str (s.take 200)), (1, .str (t.take 200)), (2, .sl 450 o l.length 1), (7, .ptr 1000 0), (8, .str a), (9, .str b), (10, .str c), (11, .str d), (12, .i64 ((i : Nat) : Int))], [(1000, some ⟨rowW 1000 false 1008 1016 x' q.1, 51, true⟩), (1008, bK true x'), (1016, bK true q.1), (450, some ⟨.agg (offC o (l.map AV.i64)), anyT, false⟩)], 1024⟩) ?_ ?_
   ·refine .region ?_
    refine .q (op_move rfl) trivial rfl ?_
    refine .q (op_move rfl) trivial rfl ?_
    refine .ax (op_callX (US := fun (u : PutI y (d) (31 * i + d.length)) => match u with  | .inl q => [(1000, some ⟨rowW 1000 false 1008 1016 x' q.1, 51, true⟩), (1016, bK true q.1), (1024, none)] | .inr q => [(1000, some ⟨rowW 1000 false 1008 1024 x' q.1, 51, true⟩), (1024, bK true q.1), (1016, none)]) [(500, 1000), (501, 1008), (502, 1016)] [(1024, 1104)] (put1X 1000 (by decide) (by decide) x' y (31 * i) hy d (by omega) d.length (by omega) d (take_all rfl)) Tryd.func9 (by kernel_rfl) rfl rfl (fun u => by cases u <;> rfl) ⟨⟨_, rfl, rfl, rfl⟩, ⟨_, rfl, rfl, rfl⟩, ⟨_, rfl, rfl, rfl⟩, trivial⟩ (⟨⟨_, _, rfl, rfl, rowW_ren _ _ _ _ _ _ _, rfl, id, rowW_nmC _ _ _ _ _ _ _ rfl rfl⟩, HLeC.oc (bK_leC rfl rfl id) trivial⟩) (fun u => match u with | .inl q => ⟨⟨500, _, rfl, rowW_uo rfl rfl, rfl, rowW_nmF _ _ _ _ _ _ _ _ rfl rfl, .inr ⟨rfl, _, rfl, rfl⟩⟩, UOk.oc (bK_uo (c := 502) (x := y) rfl rfl q.2.2.2 rfl) trivial⟩ | .inr q => ⟨⟨500, _, rfl, rowW_uo rfl rfl, rfl, rowW_nmF _ _ _ _ _ _ _ _ rfl rfl, .inr ⟨rfl, _, rfl, rfl⟩⟩, UOk.oc (bK_un (c := 1104) rfl rfl) trivial⟩) (fun u => by cases u <;> exact ⟨(fun _ => ⟨1000, _, rfl, rfl⟩), Cov.oc ⟨1016, _, rfl, rfl⟩ trivial⟩) (fun _ => rfl)) trivial rfl (fun u => ?_)
    rcases u with u | u
    ·show EvL _ _ _ _ _ _
     refine .nil ?_
     exact ⟨⟨u.1, u.2.1, u.2.2.1⟩, StLe.mk [(1000, 1000), (1008, 1008), (1016, 1016)] rfl rfl ⟨⟨_, rfl, by first | rfl | (simp only [AV.ren]; congr 1; omega), rfl⟩, ⟨_, rfl, by first | rfl | (simp only [AV.ren]; congr 1; omega), rfl⟩, ⟨_, rfl, by first | rfl | (simp only [AV.ren]; congr 1; omega), rfl⟩, ⟨_, rfl, by first | rfl | (simp only [AV.ren]; congr 1; omega), rfl⟩, ⟨_, rfl, by first | rfl | (simp only [AV.ren]; congr 1; omega), rfl⟩, ⟨_, rfl, by first | rfl | (simp only [AV.ren]; congr 1; omega), rfl⟩, ⟨_, rfl, by first | rfl | (simp only [AV.ren]; congr 1; omega), rfl⟩, ⟨_, rfl, by first | rfl | (simp only [AV.ren]; congr 1; omega), rfl⟩, ⟨_, rfl, by first | rfl | (simp only [AV.ren]; congr 1; omega), rfl⟩, trivial⟩ ⟨⟨_, _, rfl, rfl, rowW_ren _ _ _ _ _ _ _, rfl, id, rowW_nm _ _ _ _ _ _ _ rfl rfl⟩, HLe.oc (bK_le rfl rfl) (HLe.oc (bK_le rfl rfl) ⟨⟨_, _, rfl, rfl, offC_ren _ o (show (l.map AV.i64).all AV.flatV = true by rw [List.all_map]; exact List.all_eq_true.2 fun _ _ => rfl), rfl, id, offC_nm _ o (show (l.map AV.i64).all AV.flatV = true by rw [List.all_map]; exact List.all_eq_true.2 fun _ _ => rfl)⟩, trivial⟩)⟩⟩
    show EvL _ _ _ _ _ _
    refine .nil ?_
    exact ⟨⟨u.1, u.2.1, u.2.2⟩, StLe.mk [(1000, 1000), (1008, 1008), (1016, 1024)] rfl rfl ⟨⟨_, rfl, by first | rfl | (simp only [AV.ren]; congr 1; omega), rfl⟩, ⟨_, rfl, by first | rfl | (simp only [AV.ren]; congr 1; omega), rfl⟩, ⟨_, rfl, by first | rfl | (simp only [AV.ren]; congr 1; omega), rfl⟩, ⟨_, rfl, by first | rfl | (simp only [AV.ren]; congr 1; omega), rfl⟩, ⟨_, rfl, by first | rfl | (simp only [AV.ren]; congr 1; omega), rfl⟩, ⟨_, rfl, by first | rfl | (simp only [AV.ren]; congr 1; omega), rfl⟩, ⟨_, rfl, by first | rfl | (simp only [AV.ren]; congr 1; omega), rfl⟩, ⟨_, rfl, by first | rfl | (simp only [AV.ren]; congr 1; omega), rfl⟩, ⟨_, rfl, by first | rfl | (simp only [AV.ren]; congr 1; omega), rfl⟩, trivial⟩ ⟨⟨_, _, rfl, rfl, rowW_ren _ _ _ _ _ _ _, rfl, id, rowW_nm _ _ _ _ _ _ _ rfl rfl⟩, HLe.oc (bK_le rfl rfl) (HLe.oc (bK_le rfl rfl) ⟨⟨_, _, rfl, rfl, offC_ren _ o (show (l.map AV.i64).all AV.flatV = true by rw [List.all_map]; exact List.all_eq_true.2 fun _ _ => rfl), rfl, id, offC_nm _ o (show (l.map AV.i64).all AV.flatV = true by rw [List.all_map]; exact List.all_eq_true.2 fun _ _ => rfl)⟩, trivial⟩)⟩⟩
   ·rintro ⟨y', hy1, hy2⟩
    dsimp only
    have ly1 : (live y').length = (live y).length + (d).length := by rw [hy1, List.length_append]
    refine .seq ?_
    refine .region ?_
    refine .q (op_move rfl) trivial rfl ?_
    refine .a (op_call (U := [(1000, some ⟨rowW 1000 false 1008 1016 (takeB (live x').length x') y', 51, true⟩)]) [(500, 1000), (501, 1008), (502, 1016)] [] (take0O 1000 x' y' (31 * i + c.length) (by omega) hx2 1000 (live x').length (by omega)) Tryd.func11 (by kernel_rfl) rfl rfl rfl (⟨⟨_, rfl, rfl, rfl⟩, ⟨_, rfl, rfl, rfl⟩, ⟨_, rfl, rfl, rfl⟩, trivial⟩) (⟨⟨_, _, rfl, rfl, rowW_ren _ _ _ _ _ _ _, rfl, id, rowW_nmC _ _ _ _ _ _ _ rfl rfl⟩, HLeC.oc (bK_leC rfl rfl (fun _ => rfl)) trivial⟩) (⟨⟨500, _, rfl, rowW_uo rfl rfl, rfl, rowW_nmF _ _ _ _ _ _ _ _ rfl rfl, .inr ⟨rfl, _, rfl, rfl⟩⟩, trivial⟩) (⟨(fun _ => ⟨1000, _, rfl, rfl⟩), Cov.ob trivial⟩) rfl) trivial rfl ?_
    refine .q (op_move rfl) trivial rfl ?_
    refine .q (op_extract rfl rfl) trivial rfl ?_
    refine .q (op_extract rfl rfl) trivial rfl ?_
    refine .q (op_assign rfl) trivial rfl ?_
    refine .q (op_assign rfl) trivial rfl ?_
    refine .nil ?_
    show Ev _ _ _ _ _
    refine .seq ?_
    refine .region ?_
    refine .q (op_move rfl) trivial rfl ?_
    refine .a (op_call (U := [(1000, some ⟨rowW 1000 false 1008 1016 (takeB (live x').length x') (takeB (live y').length y'), 51, true⟩)]) [(500, 1000), (501, 1008), (502, 1016)] [] (take1O 1000 (takeB (live x').length x') y' (31 * i + d.length) (by omega) hy2 1000 (live y').length (by omega)) Tryd.func11 (by kernel_rfl) rfl rfl rfl (⟨⟨_, rfl, rfl, rfl⟩, ⟨_, rfl, rfl, rfl⟩, ⟨_, rfl, rfl, rfl⟩, trivial⟩) (⟨⟨_, _, rfl, rfl, rowW_ren _ _ _ _ _ _ _, rfl, id, rowW_nmC _ _ _ _ _ _ _ rfl rfl⟩, HLeC.oc (bK_leC rfl rfl (fun _ => rfl)) trivial⟩) (⟨⟨500, _, rfl, rowW_uo rfl rfl, rfl, rowW_nmF _ _ _ _ _ _ _ _ rfl rfl, .inr ⟨rfl, _, rfl, rfl⟩⟩, trivial⟩) (⟨(fun _ => ⟨1000, _, rfl, rfl⟩), Cov.ob trivial⟩) rfl) trivial rfl ?_
    refine .q (op_move rfl) trivial rfl ?_
    refine .q (op_extract rfl rfl) trivial rfl ?_
    refine .q (op_extract rfl rfl) trivial rfl ?_
    refine .q (op_assign rfl) trivial rfl ?_
    refine .q (op_assign rfl) trivial rfl ?_
    refine .nil ?_
    show Ev _ _ _ _ _
    refine .seq ?_
    refine .region ?_
    refine .q (op_move rfl) trivial rfl ?_
    refine .q (op_move rfl) trivial rfl ?_
    refine .q (op_addS rfl rfl (by rw [List.length_take]; omega)) trivial rfl ?_
    refine .q (op_move rfl) trivial rfl ?_
    refine .q (op_eqS rfl rfl rfl) trivial rfl ?_
    refine .q (op_move rfl) trivial rfl ?_
    refine .know (b' := true) (beq_of_eq (by rw [take_all rfl, hx1, ← es])) ?_
    refine .q (op_move rfl) ⟨_, rfl, rfl⟩ rfl ?_
    refine .q (op_move rfl) ⟨_, rfl, rfl⟩ rfl ?_
    refine .q (op_addS rfl rfl (by rw [List.length_take]; omega)) ⟨_, rfl, rfl⟩ rfl ?_
    refine .q (op_move rfl) ⟨_, rfl, rfl⟩ rfl ?_
    refine .q (op_eqS rfl rfl rfl) ⟨_, rfl, rfl⟩ rfl ?_
    refine .q (op_pick_true rfl rfl rfl) trivial rfl ?_
    refine .q (op_move rfl) trivial rfl ?_
    refine .know (b' := true) (beq_of_eq (by rw [take_all rfl, hy1, ← et])) ?_
    refine .q (op_move rfl) ⟨_, rfl, rfl⟩ rfl ?_
    refine .q (op_call (U := []) [(500, 1000), (501, 1008), (502, 1016)] [] (wlen0 1000 (takeB (live x').length x') (takeB (live y').length y') (31 * i + c.length) (by omega) (takeB_ok hx2 (Nat.le_refl _))) Tryd.func14 (by kernel_rfl) rfl rfl rfl (⟨⟨_, rfl, rfl, rfl⟩, ⟨_, rfl, rfl, rfl⟩, trivial⟩) (⟨⟨_, _, rfl, rfl, rowW_ren _ _ _ _ _ _ _, rfl, (fun h => by cases h), rowW_nmC _ _ _ _ _ _ _ rfl rfl⟩, trivial⟩) (trivial) (⟨(fun h => by cases h), trivial⟩) rfl) ⟨_, rfl, rfl⟩ rfl ?_
    refine .as (.i64 0) (congrArg AV.i64 (by rw [live_takeB, List.drop_length]; rfl)) ?_
    refine .q (op_move rfl) ⟨_, rfl, rfl⟩ rfl ?_
    refine .q (op_call (U := []) [(500, 1000), (501, 1008), (502, 1016)] [] (wlen1 1000 (takeB (live x').length x') (takeB (live y').length y') (31 * i + d.length) (by omega) (takeB_ok hy2 (Nat.le_refl _))) Tryd.func14 (by kernel_rfl) rfl rfl rfl (⟨⟨_, rfl, rfl, rfl⟩, ⟨_, rfl, rfl, rfl⟩, trivial⟩) (⟨⟨_, _, rfl, rfl, rowW_ren _ _ _ _ _ _ _, rfl, (fun h => by cases h), rowW_nmC _ _ _ _ _ _ _ rfl rfl⟩, trivial⟩) (trivial) (⟨(fun h => by cases h), trivial⟩) rfl) ⟨_, rfl, rfl⟩ rfl ?_
    refine .as (.i64 0) (congrArg AV.i64 (by rw [live_takeB, List.drop_length]; rfl)) ?_
    refine .q (op_addI rfl rfl ⟨by omega, by omega⟩) ⟨_, rfl, rfl⟩ rfl ?_
    refine .q (op_cmpI rfl rfl rfl) ⟨_, rfl, rfl⟩ rfl ?_
    refine .q (op_pick_true rfl rfl rfl) trivial rfl ?_
    refine .q (op_assign rfl) trivial rfl ?_
    refine .nil ?_
    show Ev _ _ _ _ _
    refine .ret ?_
    show RetOk _ _ _ _ _ _ _
    exact ret1v rfl (.inl rfl) rfl (rfl) trivial
end Go.Proofs.YtpmoonglbcglaaaDoor
