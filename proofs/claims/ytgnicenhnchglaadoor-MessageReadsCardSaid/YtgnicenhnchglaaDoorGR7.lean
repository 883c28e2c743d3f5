/-
  Texts of this claim.
-/
import Derived.Test.YtgnicenhnchglaaDoorGR5
namespace Go.Proofs.YtgnicenhnchglaaDoor
open Go.RowKit
theorem Meets.weakV {P : Program} {f : FuncId} {args : List AV} {H0 H1 : List (Nat × Option ABlk)} {v v' : AV} (h : Meets P f args H0 v H1) (hv : ∀ E y, Rel E v y → Rel E v' y) : Meets P f args H0 v' H1 := by
  intro E S n0 vals w h1 h2 h3 h4 h5 h6 h7
  refine (h E S n0 vals w h1 h2 h3 h4 h5 h6 h7).mono fun e w' hh => ?_
  obtain ⟨y, E', g1, g2, g3, g4⟩ := hh
  exact ⟨y, E', g1, g2, hv E' y g3, g4⟩
theorem tup2_weak {u v u' v' : AV} (hu : ∀ E y, Rel E u y → Rel E u' y) (hv : ∀ E y, Rel E v y → Rel E v' y) (E : Emb) (y : Value) (h : Rel E (.tup [u, v]) y) : Rel E (.tup [u', v']) y := by
  obtain ⟨ds, rfl, h2, h4⟩ := h.tup_inv
  refine .tup _ _ h2 fun i a b ha hb => ?_
  match i, ha, hb with
  | 0, ha, hb => injection ha with ha; subst ha; exact hu E b (h4 0 u b rfl hb)
  | 1, ha, hb => injection ha with ha; subst ha; exact hv E b (h4 1 v b rfl hb)
  | n + 2, ha, _ => simp at ha
theorem zero_still (E : Emb) (y : Value) (h : Rel E (.agg [.i64 0, .nilsl, .nilsl, .nilsl, .nilsl]) y) : Rel E (.agg [.i64 0, .fsl [] 0 1, .dsl [], .fsl [] 0 1, .fsl [] 0 1]) y := by
  obtain ⟨ds, rfl, h2, _, h4⟩ := h.agg_inv (cs := [.i64 0, .nilsl, .nilsl, .nilsl, .nilsl]) rfl
  refine .agg _ [.i64 0, .fsl [] 0 1, .dsl [], .fsl [] 0 1, .fsl [] 0 1] ds rfl h2 (fun x hx => ?_) fun i a b ha hb => ?_
  · simp only [List.mem_cons, List.not_mem_nil, or_false] at hx
    rcases hx with rfl | rfl | rfl | rfl | rfl <;> rfl
  · match i, ha, hb with
    | 0, ha, hb => injection ha with ha; subst ha; exact h4 0 _ b rfl hb
    | 1, ha, hb => injection ha with ha; subst ha; exact nil_fsl 1 E b (h4 1 _ b rfl hb)
    | 2, ha, hb => injection ha with ha; subst ha; exact nil_dsl E b (h4 2 _ b rfl hb)
    | 3, ha, hb => injection ha with ha; subst ha; exact nil_fsl 1 E b (h4 3 _ b rfl hb)
    | 4, ha, hb => injection ha with ha; subst ha; exact nil_fsl 1 E b (h4 4 _ b rfl hb)
    | n + 5, ha, _ => simp at ha
theorem id_rel {x : AV} (E : Emb) (y : Value) (h : Rel E x y) : Rel E x y := h
set_option maxRecDepth 100000 in
theorem parsez_ev (eo : Nat → Nat × Nat) : Meets Tryd.prog 12 [.str []] [(1, some ⟨.agg [.err 141 (2) (offE eo (2))], errT, false⟩), (3, some ⟨.agg [.err 141 (4) (offE eo (4))], errT, false⟩), (2, some ⟨.agg [.err 141 (3) (offE eo (3))], errT, false⟩), (20, some ⟨.agg kindCells, errT, false⟩), (19, some ⟨.agg [.err 141 (20) (offE eo (20))], errT, false⟩)] (.tup [.agg [.i64 0, .nilsl, .nilsl, .nilsl, .nilsl], .err 141 (2) (offE eo (2))]) [] := by
 refine meets_of_ev (nt := 52) Tryd.func12 rfl rfl (Nat.le_of_ble_eq_true rfl) ?_
 refine .seq ?_
 refine .region ?_
 refine .a (op_allocRow zero30 rel_zero30 rfl) trivial rfl ?_
 refine .q (op_assign rfl) trivial rfl ?_
 refine .nil ?_
 show Ev _ _ _ _ _
 refine .seq ?_
 refine .seq ?_
 refine .region ?_
 refine .q (op_move rfl) trivial rfl ?_
 refine .q (op_eqS rfl rfl rfl) trivial rfl ?_
 refine .nil ?_
 show Ev _ _ _ _ _
 refine .cond_true rfl (rfl) ?_
 refine .seq ?_
 refine .drawnF [[], [], [0], [0, 1, 2]] [1, 2] [] [(1, ([1], [])), (2, ([], [1000]))] (by kernel_rfl) (by kernel_rfl) rfl ?_
 show DK _ [0, 1, 2, 3] _ _ _
 refine .q rfl (op_buildS (r := .agg _) Tryd.underlying30 rfl zero30 rel_zero30 rfl rfl rfl rfl) trivial ?_
 refine .q rfl (op_load Tryd.underlying33 rfl rfl rfl rfl (by first | omega | (simp only [AV.len]; omega) | (simp only [AV.len, List.length_set]; omega) | assumption | (simp [AV.len]; done))) trivial ?_
 refine .w rfl (op_storeRow (by kernel_rfl) rfl rfl rfl rfl rfl (rfl) (rfl)) trivial rfl rfl ?_
 refine .q rfl (op_assign rfl) trivial ?_
 refine .nil ?_
 show Ev _ _ _ _ _
 refine .ret ?_
 show RetOk _ _ _ _ _ _ _
 exact retc2 rfl (.inl rfl) ⟨_, _, _, _, rfl, rfl, rfl, rfl, rfl, Tryd.underlying30, rfl, (by kernel_rfl)⟩ rfl trivial
set_option maxRecDepth 100000 in
theorem parsek_ev (s : List UInt8) (h0 : s ≠ []) (K : Int) (hK : K = (((byteD ⟨s, 0⟩).2.toNat : Nat) : Int)) (hk : isKind K = false) (eo : Nat → Nat × Nat) : Meets Tryd.prog 12 [.str s] [(1, some ⟨.agg [.err 141 (2) (offE eo (2))], errT, false⟩), (3, some ⟨.agg [.err 141 (4) (offE eo (4))], errT, false⟩), (2, some ⟨.agg [.err 141 (3) (offE eo (3))], errT, false⟩), (20, some ⟨.agg kindCells, errT, false⟩), (19, some ⟨.agg [.err 141 (20) (offE eo (20))], errT, false⟩)] (.tup [.agg [.i64 0, .nilsl, .nilsl, .nilsl, .nilsl], .err 141 (20) (offE eo (20))]) [] := by
 refine meets_of_ev (nt := 52) Tryd.func12 rfl rfl (Nat.le_of_ble_eq_true rfl) ?_
 refine .seq ?_
 refine .region ?_
 refine .a (op_allocRow zero30 rel_zero30 rfl) trivial rfl ?_
 refine .q (op_assign rfl) trivial rfl ?_
 refine .nil ?_
 show Ev _ _ _ _ _
 refine .seq ?_
 refine .seq ?_
 refine .region ?_
 refine .q (op_move rfl) trivial rfl ?_
 refine .q (op_eqS rfl rfl rfl) trivial rfl ?_
 refine .nil ?_
 show Ev _ _ _ _ _
 refine .cond_false rfl (by simpa using h0) ?_
 refine .skip ?_
 show Ev _ _ _ _ _
 refine .seq ?_
 refine .region ?_
 refine .q (op_move rfl) trivial rfl ?_
 refine .a (op_call (U := [(1008, some ⟨.agg [.str (DI.mk s 0).r, .err 141 ((DI.mk s 0).e) (offE eo ((DI.mk s 0).e))], 103, true⟩)]) [] [(1008, 1000)] (wof_ev s eo) Tryd.func30 (by kernel_rfl) rfl rfl rfl (⟨⟨_, rfl, rfl, rfl⟩, trivial⟩) (trivial) (⟨⟨1000, _, rfl, rfl, rfl, rfl, .inl rfl⟩, trivial⟩) (trivial) rfl) trivial rfl ?_
 refine .q (op_assign rfl) trivial rfl ?_
 refine .nil ?_
 show Ev _ _ _ _ _
 refine .seq ?_
 refine .region ?_
 refine .q (op_move rfl) trivial rfl ?_
 refine .a (op_call (U := [(1008, some ⟨.agg [.str ((byteD ⟨s, 0⟩).1).r, .err 141 (((byteD ⟨s, 0⟩).1).e) (offE eo (((byteD ⟨s, 0⟩).1).e))], 103, true⟩)]) [(500, 1008)] [] (ibyte_ev (DI.mk s 0) eo) Tryd.func31 (by kernel_rfl) rfl rfl rfl (⟨⟨_, rfl, rfl, rfl⟩, trivial⟩) (⟨⟨_, _, rfl, rfl, rfl, rfl, id, rfl⟩, ⟨_, _, rfl, rfl, rfl, rfl, (fun h => by cases h), rfl⟩, trivial⟩) (⟨⟨500, _, rfl, rfl, rfl, rfl, .inr ⟨rfl, _, rfl, rfl⟩⟩, trivial⟩) (⟨(fun _ => ⟨1008, _, rfl, rfl⟩), (fun h => by cases h), trivial⟩) rfl) trivial rfl ?_
 refine .q (op_conv Tryd.underlying5 Tryd.underlying3 rfl rfl) trivial rfl ?_
 refine .as (.i64 K) (by rw [hK]) ?_
 refine .q (op_buildS (r := .agg [.i64 (K), .nilsl, .nilsl, .nilsl, .nilsl]) Tryd.underlying30 rfl zero30 rel_zero30 rfl rfl rfl rfl) trivial rfl ?_
 refine .a (op_allocRow zero30 rel_zero30 rfl) trivial rfl ?_
 refine .w (op_storeRow (by kernel_rfl) rfl rfl rfl rfl rfl (rfl) (rfl)) trivial rfl ?_
 refine .nil ?_
 show Ev _ _ _ _ _
 refine .seq ?_
 refine .region ?_
 refine .q (op_fieldAddr (m := 0) Tryd.underlying30 rfl (by kernel_rfl) rfl) trivial rfl ?_
 refine .as (.ptr 1024 0) rfl ?_
 refine .q (op_load Tryd.underlying3 rfl rfl rfl rfl (by show 0 < 5; decide)) trivial rfl ?_
 refine .q (op_call (U := []) [] [] (fields_ev K) Tryd.func18 (by kernel_rfl) rfl rfl rfl (⟨⟨_, rfl, rfl, rfl⟩, trivial⟩) (⟨⟨_, _, rfl, rfl, rfl, rfl, (fun h => by cases h), rfl⟩, trivial⟩) (trivial) (⟨(fun h => by cases h), trivial⟩) rfl) trivial rfl ?_
 refine .q (op_move rfl) trivial rfl ?_
 refine .q (op_extract rfl rfl) trivial rfl ?_
 refine .q (op_extract rfl rfl) trivial rfl ?_
 refine .q (op_assign rfl) trivial rfl ?_
 refine .q (op_assign rfl) trivial rfl ?_
 refine .nil ?_
 show Ev _ _ _ _ _
 refine .seq ?_
 refine .seq ?_
 refine .region ?_
 refine .q (op_move rfl) trivial rfl ?_
 refine .q (op_notB rfl) trivial rfl ?_
 refine .nil ?_
 show Ev _ _ _ _ _
 refine .cond_true rfl (by rw [hk]; rfl) ?_
 refine .seq ?_
 refine .drawnF [[], [], [0], [0, 1, 2]] [1, 2] [] [(1, ([19], [])), (2, ([], [1000]))] (by kernel_rfl) (by kernel_rfl) rfl ?_
 show DK _ [0, 1, 2, 3] _ _ _
 refine .q rfl (op_buildS (r := .agg _) Tryd.underlying30 rfl zero30 rel_zero30 rfl rfl rfl rfl) trivial ?_
 refine .q rfl (op_load Tryd.underlying33 rfl rfl rfl rfl (by first | omega | (simp only [AV.len]; omega) | (simp only [AV.len, List.length_set]; omega) | assumption | (simp [AV.len]; done))) trivial ?_
 refine .w rfl (op_storeRow (by kernel_rfl) rfl rfl rfl rfl rfl (rfl) (rfl)) trivial rfl rfl ?_
 refine .q rfl (op_assign rfl) trivial ?_
 refine .nil ?_
 show Ev _ _ _ _ _
 refine .ret ?_
 show RetOk _ _ _ _ _ _ _
 exact retc2 rfl (.inl rfl) ⟨_, _, _, _, rfl, rfl, rfl, rfl, rfl, Tryd.underlying30, rfl, (by kernel_rfl)⟩ rfl trivial
set_option maxRecDepth 100000 in
theorem rparsez_ev  : Meets Tryd.prog 15 [.str []] [] (.tup [.agg [.i64 0, .nilsl, .nilsl, .nilsl, .nilsl], .i64 2]) [] := by
 refine meets_of_ev (nt := 146) Tryd.func15 rfl rfl (Nat.le_of_ble_eq_true rfl) ?_
 refine .seq ?_
 refine .region ?_
 refine .a (op_allocRow zero27 rel_zero27 rfl) trivial rfl ?_
 refine .q (op_assign rfl) trivial rfl ?_
 refine .nil ?_
 show Ev _ _ _ _ _
 refine .seq ?_
 refine .region ?_
 refine .q (op_move rfl) trivial rfl ?_
 refine .q (op_buildS (r := .agg [.str [], .i64 0]) Tryd.underlying71 rfl zero71 rel_zero71 rfl rfl rfl rfl) trivial rfl ?_
 refine .q (op_call (U := []) [] [] (rnum_ev (DI.mk [] 0) (fun h => absurd rfl h) 1 (by decide)) Tryd.func34 (by kernel_rfl) rfl rfl rfl (⟨⟨_, rfl, rfl, rfl⟩, ⟨_, rfl, rfl, rfl⟩, trivial⟩) (trivial) (trivial) (trivial) rfl) trivial rfl ?_
 refine .q (op_move rfl) trivial rfl ?_
 refine .q (op_extract rfl rfl) trivial rfl ?_
 refine .q (op_extract rfl rfl) trivial rfl ?_
 refine .a (op_allocRow zero71 rel_zero71 rfl) trivial rfl ?_
 refine .w (op_storeRow (by kernel_rfl) rfl rfl rfl rfl rfl (rfl) (rfl)) trivial rfl ?_
 refine .q (op_assign rfl) trivial rfl ?_
 refine .nil ?_
 show Ev _ _ _ _ _
 refine .seq ?_
 refine .seq ?_
 refine .region ?_
 refine .q (op_fieldAddr (m := 0) Tryd.underlying71 rfl (by kernel_rfl) rfl) trivial rfl ?_
 refine .as (.ptr 1008 1) rfl ?_
 refine .q (op_load Tryd.underlying3 rfl rfl rfl rfl (by show _ < 2; decide)) trivial rfl ?_
 refine .q (op_cmpI rfl rfl rfl) trivial rfl ?_
 refine .nil ?_
 show Ev _ _ _ _ _
 refine .cond_true rfl (rfl) ?_
 refine .seq ?_
 refine .drawnF [[], [], [1], [0], [0, 1, 2, 3]] [2, 3] [] [(2, ([1008], [])), (3, ([], [1000]))] (by kernel_rfl) (by kernel_rfl) rfl ?_
 show DK _ [0, 1, 2, 3, 4] _ _ _
 refine .q rfl (op_buildS (r := .agg [.i64 0, .nilsl, .nilsl, .nilsl, .nilsl]) Tryd.underlying27 rfl zero27 rel_zero27 rfl rfl rfl rfl) trivial ?_
 refine .q rfl (op_fieldAddr (m := 0) Tryd.underlying71 rfl (by kernel_rfl) rfl) trivial ?_
 refine .as (.ptr 1008 1) rfl ?_
 refine .q rfl (op_load Tryd.underlying3 rfl rfl rfl rfl (by show _ < 2; decide)) trivial ?_
 refine .w rfl (op_storeRow (by kernel_rfl) rfl rfl rfl rfl rfl (rfl) (rfl)) trivial rfl rfl ?_
 refine .q rfl (op_assign rfl) trivial ?_
 refine .nil ?_
 show Ev _ _ _ _ _
 refine .ret ?_
 show RetOk _ _ _ _ _ _ _
 exact retc2 rfl (.inl rfl) ⟨_, _, _, _, rfl, rfl, rfl, rfl, rfl, Tryd.underlying27, rfl, (by kernel_rfl)⟩ rfl trivial
set_option maxRecDepth 100000 in
theorem rparsek_ev (s : List UInt8) (he0 : (byteD ⟨s, 0⟩).1.e = 0) (K : Int) (hK : K = (((byteD ⟨s, 0⟩).2.toNat : Nat) : Int)) (hk : isKind K = false) : Meets Tryd.prog 15 [.str s] [] (.tup [.agg [.i64 0, .nilsl, .nilsl, .nilsl, .nilsl], .i64 20]) [] := by
 refine meets_of_ev (nt := 146) Tryd.func15 rfl rfl (Nat.le_of_ble_eq_true rfl) ?_
 refine .seq ?_
 refine .region ?_
 refine .a (op_allocRow zero27 rel_zero27 rfl) trivial rfl ?_
 refine .q (op_assign rfl) trivial rfl ?_
 refine .nil ?_
 show Ev _ _ _ _ _
 refine .seq ?_
 refine .region ?_
 refine .q (op_move rfl) trivial rfl ?_
 refine .q (op_buildS (r := .agg [.str s, .i64 0]) Tryd.underlying71 rfl zero71 rel_zero71 rfl rfl rfl rfl) trivial rfl ?_
 refine .q (op_call (U := []) [] [] (rnum_ev (DI.mk s 0) (fun h => absurd rfl h) 1 (by decide)) Tryd.func34 (by kernel_rfl) rfl rfl rfl (⟨⟨_, rfl, rfl, rfl⟩, ⟨_, rfl, rfl, rfl⟩, trivial⟩) (trivial) (trivial) (trivial) rfl) trivial rfl ?_
 refine .q (op_move rfl) trivial rfl ?_
 refine .q (op_extract rfl rfl) trivial rfl ?_
 refine .q (op_extract rfl rfl) trivial rfl ?_
 refine .a (op_allocRow zero71 rel_zero71 rfl) trivial rfl ?_
 refine .w (op_storeRow (by kernel_rfl) rfl rfl rfl rfl rfl (rfl) (rfl)) trivial rfl ?_
 refine .q (op_assign rfl) trivial rfl ?_
 refine .nil ?_
 show Ev _ _ _ _ _
 refine .seq ?_
 refine .seq ?_
 refine .region ?_
 refine .q (op_fieldAddr (m := 0) Tryd.underlying71 rfl (by kernel_rfl) rfl) trivial rfl ?_
 refine .as (.ptr 1008 1) rfl ?_
 refine .q (op_load Tryd.underlying3 rfl rfl rfl rfl (by show _ < 2; decide)) trivial rfl ?_
 refine .q (op_cmpI rfl rfl rfl) trivial rfl ?_
 refine .nil ?_
 show Ev _ _ _ _ _
 refine .cond_false rfl (by rw [show (numD (DI.mk s 0) 1).1.e = 0 from he0]; rfl) ?_
 refine .skip ?_
 show Ev _ _ _ _ _
 refine .seq ?_
 refine .region ?_
 refine .q (op_move rfl) trivial rfl ?_
 refine .q (op_conv64I Tryd.underlying64 Tryd.underlying3 rfl (by rw [kind_num]; have := (byteD (DI.mk s 0)).2.toNat_lt; omega)) trivial rfl ?_
 refine .as (.i64 K) (by rw [hK]; exact congrArg (fun z : Nat => AV.i64 z) (kind_num _)) ?_
 refine .q (op_buildS (r := .agg [.i64 (K), .nilsl, .nilsl, .nilsl, .nilsl]) Tryd.underlying27 rfl zero27 rel_zero27 rfl rfl rfl rfl) trivial rfl ?_
 refine .a (op_allocRow zero27 rel_zero27 rfl) trivial rfl ?_
 refine .w (op_storeRow (by kernel_rfl) rfl rfl rfl rfl rfl (rfl) (rfl)) trivial rfl ?_
 refine .nil ?_
 show Ev _ _ _ _ _
 refine .seq ?_
 refine .region ?_
 refine .q (op_fieldAddr (m := 0) Tryd.underlying27 rfl (by kernel_rfl) rfl) trivial rfl ?_
 refine .as (.ptr 1016 0) rfl ?_
 refine .q (op_load Tryd.underlying3 rfl rfl rfl rfl (by show 0 < 5; decide)) trivial rfl ?_
 refine .q (op_call (U := []) [] [] (rfields_ev K) Tryd.func22 (by kernel_rfl) rfl rfl rfl (⟨⟨_, rfl, rfl, rfl⟩, trivial⟩) (trivial) (trivial) (trivial) rfl) trivial rfl ?_
 refine .q (op_move rfl) trivial rfl ?_
 refine .q (op_extract rfl rfl) trivial rfl ?_
 refine .q (op_extract rfl rfl) trivial rfl ?_
 refine .q (op_assign rfl) trivial rfl ?_
 refine .q (op_assign rfl) trivial rfl ?_
 refine .nil ?_
 show Ev _ _ _ _ _
 refine .seq ?_
 refine .seq ?_
 refine .region ?_
 refine .q (op_move rfl) trivial rfl ?_
 refine .q (op_notB rfl) trivial rfl ?_
 refine .nil ?_
 show Ev _ _ _ _ _
 refine .cond_true rfl (by rw [hk]; rfl) ?_
 refine .seq ?_
 refine .region ?_
 refine .q (op_buildS (r := .agg [.i64 0, .nilsl, .nilsl, .nilsl, .nilsl]) Tryd.underlying27 rfl zero27 rel_zero27 rfl rfl rfl rfl) trivial rfl ?_
 refine .w (op_storeRow (by kernel_rfl) rfl rfl rfl rfl rfl (rfl) (rfl)) trivial rfl ?_
 refine .q (op_assign rfl) trivial rfl ?_
 refine .nil ?_
 show Ev _ _ _ _ _
 refine .ret ?_
 show RetOk _ _ _ _ _ _ _
 exact retc2 rfl (.inl rfl) ⟨_, _, _, _, rfl, rfl, rfl, rfl, rfl, Tryd.underlying27, rfl, (by kernel_rfl)⟩ rfl trivial
set_option maxRecDepth 100000 in
theorem rparse_good (s : List UInt8) (he0 : (byteD ⟨s, 0⟩).1.e = 0) (hs : s.length ≤ 1000) (K : Int) (hK : K = (((byteD ⟨s, 0⟩).2.toNat : Nat) : Int)) (hk : isKind K = true) (R : MSt) (hR : (parseN (fieldsOf K) ⟨(byteD ⟨s, 0⟩).1, [], [], [], []⟩ ((fieldsOf K).length)) = R) (he : R.i.e = 0) (hl : R.i.r = []) (hI : MI9 (fieldsOf K) s.length (fieldsOf K).length R) (hnl : R.ns.length ≤ 1000) : Meets Tryd.prog 15 [.str s] [] (.tup [.agg [.i64 K, .fsl (List.map AV.u32 R.us) (R.us).length 1, .dsl R.ss, .fsl (List.map AV.dsl R.ns) (R.ns).length 1, .fsl (List.map AV.bool R.bs) (R.bs).length 1], .i64 0]) [] := by
 refine meets_of_ev (nt := 146) Tryd.func15 rfl rfl (Nat.le_of_ble_eq_true rfl) ?_
 refine .seq ?_
 refine .region ?_
 refine .a (op_allocRow zero27 rel_zero27 rfl) trivial rfl ?_
 refine .q (op_assign rfl) trivial rfl ?_
 refine .nil ?_
 show Ev _ _ _ _ _
 refine .seq ?_
 refine .region ?_
 refine .q (op_move rfl) trivial rfl ?_
 refine .q (op_buildS (r := .agg [.str s, .i64 0]) Tryd.underlying71 rfl zero71 rel_zero71 rfl rfl rfl rfl) trivial rfl ?_
 refine .q (op_call (U := []) [] [] (rnum_ev (DI.mk s 0) (fun h => absurd rfl h) 1 (by decide)) Tryd.func34 (by kernel_rfl) rfl rfl rfl (⟨⟨_, rfl, rfl, rfl⟩, ⟨_, rfl, rfl, rfl⟩, trivial⟩) (trivial) (trivial) (trivial) rfl) trivial rfl ?_
 refine .q (op_move rfl) trivial rfl ?_
 refine .q (op_extract rfl rfl) trivial rfl ?_
 refine .q (op_extract rfl rfl) trivial rfl ?_
 refine .a (op_allocRow zero71 rel_zero71 rfl) trivial rfl ?_
 refine .w (op_storeRow (by kernel_rfl) rfl rfl rfl rfl rfl (rfl) (rfl)) trivial rfl ?_
 refine .q (op_assign rfl) trivial rfl ?_
 refine .nil ?_
 show Ev _ _ _ _ _
 refine .seq ?_
 refine .seq ?_
 refine .region ?_
 refine .q (op_fieldAddr (m := 0) Tryd.underlying71 rfl (by kernel_rfl) rfl) trivial rfl ?_
 refine .as (.ptr 1008 1) rfl ?_
 refine .q (op_load Tryd.underlying3 rfl rfl rfl rfl (by show _ < 2; decide)) trivial rfl ?_
 refine .q (op_cmpI rfl rfl rfl) trivial rfl ?_
 refine .nil ?_
 show Ev _ _ _ _ _
 refine .cond_false rfl (by rw [show (numD (DI.mk s 0) 1).1.e = 0 from he0]; rfl) ?_
 refine .skip ?_
 show Ev _ _ _ _ _
 refine .seq ?_
 refine .region ?_
 refine .q (op_move rfl) trivial rfl ?_
 refine .q (op_conv64I Tryd.underlying64 Tryd.underlying3 rfl (by rw [kind_num]; have := (byteD (DI.mk s 0)).2.toNat_lt; omega)) trivial rfl ?_
 refine .as (.i64 K) (by rw [hK]; exact congrArg (fun z : Nat => AV.i64 z) (kind_num _)) ?_
 refine .q (op_buildS (r := .agg [.i64 (K), .nilsl, .nilsl, .nilsl, .nilsl]) Tryd.underlying27 rfl zero27 rel_zero27 rfl rfl rfl rfl) trivial rfl ?_
 refine .a (op_allocRow zero27 rel_zero27 rfl) trivial rfl ?_
 refine .w (op_storeRow (by kernel_rfl) rfl rfl rfl rfl rfl (rfl) (rfl)) trivial rfl ?_
 refine .nil ?_
 show Ev _ _ _ _ _
 refine .seq ?_
 refine .region ?_
 refine .q (op_fieldAddr (m := 0) Tryd.underlying27 rfl (by kernel_rfl) rfl) trivial rfl ?_
 refine .as (.ptr 1016 0) rfl ?_
 refine .q (op_load Tryd.underlying3 rfl rfl rfl rfl (by show 0 < 5; decide)) trivial rfl ?_
 refine .q (op_call (U := []) [] [] (rfields_ev K) Tryd.func22 (by kernel_rfl) rfl rfl rfl (⟨⟨_, rfl, rfl, rfl⟩, trivial⟩) (trivial) (trivial) (trivial) rfl) trivial rfl ?_
 refine .q (op_move rfl) trivial rfl ?_
 refine .q (op_extract rfl rfl) trivial rfl ?_
 refine .q (op_extract rfl rfl) trivial rfl ?_
 refine .q (op_assign rfl) trivial rfl ?_
 refine .q (op_assign rfl) trivial rfl ?_
 refine .nil ?_
 show Ev _ _ _ _ _
 refine .seq ?_
 refine .seq ?_
 refine .region ?_
 refine .q (op_move rfl) trivial rfl ?_
 refine .q (op_notB rfl) trivial rfl ?_
 refine .nil ?_
 show Ev _ _ _ _ _
 refine .cond_false rfl (by rw [hk]; rfl) ?_
 refine .skip ?_
 show Ev _ _ _ _ _
 refine .seq ?_
 refine .seq ?_
 refine .region ?_
 refine .q (op_assign rfl) trivial rfl ?_
 refine .nil ?_
 show Ev _ _ _ _ _
 refine .block ?_
 refine Ev.loop (ι := { j : Nat // j ≤ (fieldsOf K).length }) (fun q => ⟨[(2, .ptr 1000 0), (3, .i64 0), (4, .ptr 1008 0), (6, .ptr 1016 0), (7, .str (fieldsOf K)), (9, .i64 ((q.1 : Nat) : Int))], [(1000, some ⟨.agg [.i64 0, .nilsl, .nilsl, .nilsl, .nilsl], 27, true⟩), (1008, some ⟨.agg [.str ((parseN (fieldsOf K) ⟨(byteD ⟨s, 0⟩).1, [], [], [], []⟩ q.1).i).r, .i64 ((((parseN (fieldsOf K) ⟨(byteD ⟨s, 0⟩).1, [], [], [], []⟩ q.1).i).e : Nat) : Int)], 71, true⟩), (1016, some ⟨msgO K 1024 (parseN (fieldsOf K) ⟨(byteD ⟨s, 0⟩).1, [], [], [], []⟩ q.1).us.length 1032 (parseN (fieldsOf K) ⟨(byteD ⟨s, 0⟩).1, [], [], [], []⟩ q.1).ss.length 1040 (parseN (fieldsOf K) ⟨(byteD ⟨s, 0⟩).1, [], [], [], []⟩ q.1).ns.length 1048 (parseN (fieldsOf K) ⟨(byteD ⟨s, 0⟩).1, [], [], [], []⟩ q.1).bs.length, 27, true⟩), (1024, opt (.agg32 (parseN (fieldsOf K) ⟨(byteD ⟨s, 0⟩).1, [], [], [], []⟩ q.1).us) (parseN (fieldsOf K) ⟨(byteD ⟨s, 0⟩).1, [], [], [], []⟩ q.1).us.length 46), (1032, opt (.aggS (parseN (fieldsOf K) ⟨(byteD ⟨s, 0⟩).1, [], [], [], []⟩ q.1).ss) (parseN (fieldsOf K) ⟨(byteD ⟨s, 0⟩).1, [], [], [], []⟩ q.1).ss.length 9), (1040, opt (.aggD (parseN (fieldsOf K) ⟨(byteD ⟨s, 0⟩).1, [], [], [], []⟩ q.1).ns) (parseN (fieldsOf K) ⟨(byteD ⟨s, 0⟩).1, [], [], [], []⟩ q.1).ns.length 23), (1048, opt (.aggT (parseN (fieldsOf K) ⟨(byteD ⟨s, 0⟩).1, [], [], [], []⟩ q.1).bs) (parseN (fieldsOf K) ⟨(byteD ⟨s, 0⟩).1, [], [], [], []⟩ q.1).bs.length 4)], 1056⟩) (fun q => (fieldsOf K).length - q.1) ⟨0, Nat.zero_le _⟩ (StLe.mk [(1000, 1000), (1008, 1008), (1016, 1016)] rfl rfl ⟨⟨_, rfl, rfl, rfl⟩, ⟨_, rfl, rfl, rfl⟩, ⟨_, rfl, rfl, rfl⟩, ⟨_, rfl, rfl, rfl⟩, ⟨_, rfl, rfl, rfl⟩, ⟨_, rfl, rfl, rfl⟩, trivial⟩ ⟨⟨_, _, rfl, rfl, rfl, rfl, id, rfl⟩, ⟨_, _, rfl, rfl, rfl, rfl, id, rfl⟩, ⟨_, _, rfl, rfl, rfl, rfl, id, rfl⟩, HLe.oc (fun _ h => nomatch h) (HLe.oc (fun _ h => nomatch h) (HLe.oc (fun _ h => nomatch h) (HLe.oc (fun _ h => nomatch h) (trivial))))⟩) ?_
 rintro ⟨j, hj⟩
 dsimp only
 have hm0 := parseN_le (fieldsOf K) ⟨(byteD ⟨s, 0⟩).1, [], [], [], []⟩ j
 have hok : (parseN (fieldsOf K) ⟨(byteD ⟨s, 0⟩).1, [], [], [], []⟩ j).i.ok := parseN_ok (fieldsOf K) _ (byteD_ok s) j
 have hb0 : (byteD ⟨s, 0⟩).1.r.length ≤ s.length := (rawD_len_le ⟨s, 0⟩ 1).2
 dsimp only at hm0
 simp only [List.length_nil, Nat.zero_add] at hm0
 generalize hM : (parseN (fieldsOf K) ⟨(byteD ⟨s, 0⟩).1, [], [], [], []⟩ j) = M at hm0 hok ⊢
 obtain ⟨hmr, hmu, hms, hmn, hmb⟩ := hm0
 have hj12 := fields_len K
 refine .seq ?_
 refine .seq ?_
 refine .region ?_
 refine .q (op_move rfl) trivial rfl ?_
 refine .q (op_move rfl) trivial rfl ?_
 refine .q (op_len_str Tryd.underlying9 rfl) trivial rfl ?_
 refine .q (op_cmpI rfl rfl rfl) trivial rfl ?_
 refine .nil ?_
 show Ev _ _ _ _ _
 refine .cond rfl (fun hc41 => ?_) (fun hc41 => ?_)
 ·simp only [decide_eq_true_eq, decide_eq_false_iff_not, beq_iff_eq, bne_iff_ne, ne_eq, beq_eq_false_iff_ne, bne_eq_false_iff_eq] at hc41
  refine .skip ?_
  show Ev _ _ _ _ _
  refine .seq ?_
  refine .block ?_
  refine .seq ?_
  refine .region ?_
  refine .q (op_assign rfl) trivial rfl ?_
  refine .nil ?_
  show Ev _ _ _ _ _
  refine .seq ?_
  refine .region ?_
  refine .q (op_assign rfl) trivial rfl ?_
  refine .nil ?_
  show Ev _ _ _ _ _
  refine .seq ?_
  refine .region ?_
  refine .q (op_move rfl) trivial rfl ?_
  refine .q (op_move rfl) trivial rfl ?_
  refine .q (op_index_str Tryd.underlying9 rfl rfl (show _ = ((j : Nat) : Int) from rfl) (by omega)) trivial rfl ?_
  refine .nil ?_
  show Ev _ _ _ _ _
  refine .block ?_
  refine .seq ?_
  refine .region ?_
  refine six_of (fields_six K j (by omega)) (fun h6 => ?_) (fun h6 => ?_) (fun h6 => ?_) (fun h6 => ?_) (fun h6 => ?_) (fun h6 => ?_)
  ·refine .as (.u8 117) (congrArg AV.u8 h6) ?_
   refine .q (op_bin8 rfl rfl rfl) trivial rfl ?_
   refine .q (op_assign rfl) trivial rfl ?_
   refine .nil ?_
   show Ev _ _ _ _ _
   refine .cond_true rfl (rfl) ?_
   refine .seq ?_
   refine .region ?_
   refine .q (op_loadRow Tryd.underlying71 rfl (by kernel_rfl) rfl rfl rfl (rfl)) trivial rfl ?_
   refine .q (op_call (U := []) [] [] (rnum_ev M.i hok 4 (by decide)) Tryd.func34 (by kernel_rfl) rfl rfl rfl (⟨⟨_, rfl, rfl, rfl⟩, ⟨_, rfl, rfl, rfl⟩, trivial⟩) (trivial) (trivial) (trivial) rfl) trivial rfl ?_
   refine .q (op_move rfl) trivial rfl ?_
   refine .q (op_extract rfl rfl) trivial rfl ?_
   refine .q (op_extract rfl rfl) trivial rfl ?_
   refine .w (op_storeRow (by kernel_rfl) rfl rfl rfl rfl rfl (rfl) (rfl)) trivial rfl ?_
   refine .q (op_assign rfl) trivial rfl ?_
   refine .nil ?_
   show Ev _ _ _ _ _
   refine .region ?_
   refine .q (op_fieldAddr (m := 0) Tryd.underlying27 rfl (by kernel_rfl) rfl) trivial rfl ?_
   refine .as (.ptr 1016 1) rfl ?_
   refine .q (op_load Tryd.underlying22 rfl rfl rfl rfl (by show _ < 5; decide)) trivial rfl ?_
   refine .q (op_move rfl) trivial rfl ?_
   refine .q (op_conv Tryd.underlying64 Tryd.underlying46 rfl rfl) trivial rfl ?_
   refine .a (ap_build (us := [.u32 (u32D M.i).2]) (c := .agg32 [(u32D M.i).2]) Tryd.underlying22 inf46 rfl (by decide) (by decide) ⟨rfl, rfl, rfl, trivial⟩ rfl) trivial rfl ?_
   refine .a (ap_append_slO (c := .agg32 M.us) (c' := .agg32 (M.us ++ [(u32D M.i).2])) Tryd.underlying22 Tryd.underlying22 (.inr ⟨_, rfl⟩) inf46 rfl (fun _ h => h) (by show M.us.length = M.us.length * 1; omega) (srcs_sl (b := 1056) (o := 0) (m := 1) (z := 1) (k := ⟨.agg32 [(u32D M.i).2], 46, true⟩) rfl rfl (Nat.le_refl 1) rfl) (by show (M.us ++ [(u32D M.i).2]).map _ = _; rw [List.map_append]; rfl) (by decide) (Nat.le_of_ble_eq_true rfl) (by omega)) trivial rfl ?_
   refine .q (op_fieldAddr (m := 0) Tryd.underlying27 rfl (by kernel_rfl) rfl) trivial rfl ?_
   refine .as (.ptr 1016 1) rfl ?_
   refine .w (op_store (by kernel_rfl) rfl rfl rfl rfl rfl (by show _ < 5; decide)) trivial rfl ?_
   refine .nil ?_
   show Ev _ _ _ _ _
   refine .region ?_
   refine .q (op_move rfl) trivial rfl ?_
   refine .q (op_addI rfl rfl ⟨by omega, by omega⟩) trivial rfl ?_
   refine .q (op_assign rfl) trivial rfl ?_
   refine .nil ?_
   have e9 : (parseN (fieldsOf K) ⟨(byteD ⟨s, 0⟩).1, [], [], [], []⟩ (j + 1)) = ⟨(u32D M.i).1, M.us ++ [(u32D M.i).2], M.ss, M.ns, M.bs⟩ := by
    show getP _ _ = _; rw [hM, h6]; rfl
   refine ⟨⟨j + 1, by omega⟩, by (try dsimp only); omega, ?_⟩
   dsimp only
   rw [e9]
   exact StLe.mk [(1000, 1000), (1008, 1008), (1016, 1016), (1024, 1064), (1032, 1032), (1040, 1040), (1048, 1048)] rfl rfl ⟨⟨_, rfl, by first | rfl | (simp only [AV.ren]; congr 1), rfl⟩, ⟨_, rfl, by first | rfl | (simp only [AV.ren]; congr 1), rfl⟩, ⟨_, rfl, by first | rfl | (simp only [AV.ren]; congr 1), rfl⟩, ⟨_, rfl, by first | rfl | (simp only [AV.ren]; congr 1), rfl⟩, ⟨_, rfl, by first | rfl | (simp only [AV.ren]; congr 1), rfl⟩, ⟨_, rfl, by first | rfl | (simp only [AV.ren]; congr 1), rfl⟩, trivial⟩ ⟨⟨_, _, rfl, rfl, rfl, rfl, id, rfl⟩, ⟨_, _, rfl, rfl, rfl, rfl, id, rfl⟩, ⟨_, _, rfl, rfl, (msgO_ren (back [(1000, 1000), (1008, 1008), (1016, 1016), (1024, 1064), (1032, 1032), (1040, 1040), (1048, 1048)]) K 1064 (M.us.length + 1) 1032 M.ss.length 1040 M.ns.length 1048 M.bs.length).trans (by rw [List.length_append]; rfl), rfl, id, msgO_nm (L := [(1000, 1000), (1008, 1008), (1016, 1016), (1024, 1064), (1032, 1032), (1040, 1040), (1048, 1048)]) (a := 1064) (b := 1032) (c := 1040) (d := 1048) K (M.us.length + 1) M.ss.length M.ns.length M.bs.length rfl⟩, HLe.oc (opt_le rfl (fun _ h => by rw [(opt_some h).1]; rfl) rfl rfl) (HLe.oc (opt_le rfl (fun _ h => h) rfl rfl) (HLe.oc (opt_le rfl (fun _ h => h) rfl rfl) (HLe.oc (opt_le rfl (fun _ h => h) rfl rfl) (trivial))))⟩
  ·refine .as (.u8 98) (congrArg AV.u8 h6) ?_
   refine .q (op_bin8 rfl rfl rfl) trivial rfl ?_
   refine .q (op_assign rfl) trivial rfl ?_
   refine .nil ?_
   show Ev _ _ _ _ _
   refine .cond_false rfl (rfl) ?_
   refine .seq ?_
   refine .region ?_
   refine .q (op_bin8 rfl rfl rfl) trivial rfl ?_
   refine .q (op_assign rfl) trivial rfl ?_
   refine .nil ?_
   show Ev _ _ _ _ _
   refine .cond_false rfl (rfl) ?_
   refine .seq ?_
   refine .region ?_
   refine .q (op_bin8 rfl rfl rfl) trivial rfl ?_
   refine .q (op_assign rfl) trivial rfl ?_
   refine .nil ?_
   show Ev _ _ _ _ _
   refine .cond_true rfl (rfl) ?_
   refine .seq ?_
   refine .region ?_
   refine .q (op_loadRow Tryd.underlying71 rfl (by kernel_rfl) rfl rfl rfl (rfl)) trivial rfl ?_
   refine .q (op_call (U := []) [] [] (rnum_ev M.i hok 1 (by decide)) Tryd.func34 (by kernel_rfl) rfl rfl rfl (⟨⟨_, rfl, rfl, rfl⟩, ⟨_, rfl, rfl, rfl⟩, trivial⟩) (trivial) (trivial) (trivial) rfl) trivial rfl ?_
   refine .q (op_move rfl) trivial rfl ?_
   refine .q (op_extract rfl rfl) trivial rfl ?_
   refine .q (op_extract rfl rfl) trivial rfl ?_
   refine .w (op_storeRow (by kernel_rfl) rfl rfl rfl rfl rfl (rfl) (rfl)) trivial rfl ?_
   refine .q (op_assign rfl) trivial rfl ?_
   refine .nil ?_
   show Ev _ _ _ _ _
   refine .region ?_
   refine .q (op_fieldAddr (m := 0) Tryd.underlying27 rfl (by kernel_rfl) rfl) trivial rfl ?_
   refine .as (.ptr 1016 4) rfl ?_
   refine .q (op_load Tryd.underlying25 rfl rfl rfl rfl (by show _ < 5; decide)) trivial rfl ?_
   refine .q (op_move rfl) trivial rfl ?_
   refine .q (op_bin64 rfl rfl rfl) trivial rfl ?_
   refine .as (.bool (boolD M.i).2) (congrArg AV.bool (bool_num M.i)) ?_
   refine .a (ap_build (us := [.bool (boolD M.i).2]) (c := .aggT [(boolD M.i).2]) Tryd.underlying25 inf4 rfl (by decide) (by decide) ⟨rfl, rfl, rfl, trivial⟩ rfl) trivial rfl ?_
   refine .a (ap_append_slO (c := .aggT M.bs) (c' := .aggT (M.bs ++ [(boolD M.i).2])) Tryd.underlying25 Tryd.underlying25 (.inr ⟨_, rfl⟩) inf4 rfl (fun _ h => h) (by show M.bs.length = M.bs.length * 1; omega) (srcs_sl (b := 1056) (o := 0) (m := 1) (z := 1) (k := ⟨.aggT [(boolD M.i).2], 4, true⟩) rfl rfl (Nat.le_refl 1) rfl) (by show (M.bs ++ [(boolD M.i).2]).map _ = _; rw [List.map_append]; rfl) (by decide) (Nat.le_of_ble_eq_true rfl) (by omega)) trivial rfl ?_
   refine .q (op_fieldAddr (m := 0) Tryd.underlying27 rfl (by kernel_rfl) rfl) trivial rfl ?_
   refine .as (.ptr 1016 4) rfl ?_
   refine .w (op_store (by kernel_rfl) rfl rfl rfl rfl rfl (by show _ < 5; decide)) trivial rfl ?_
   refine .nil ?_
   show Ev _ _ _ _ _
   refine .region ?_
   refine .q (op_move rfl) trivial rfl ?_
   refine .q (op_addI rfl rfl ⟨by omega, by omega⟩) trivial rfl ?_
   refine .q (op_assign rfl) trivial rfl ?_
   refine .nil ?_
   have e9 : (parseN (fieldsOf K) ⟨(byteD ⟨s, 0⟩).1, [], [], [], []⟩ (j + 1)) = ⟨(boolD M.i).1, M.us, M.ss, M.ns, M.bs ++ [(boolD M.i).2]⟩ := by
    show getP _ _ = _; rw [hM, h6]; rfl
   refine ⟨⟨j + 1, by omega⟩, by (try dsimp only); omega, ?_⟩
   dsimp only
   rw [e9]
   exact StLe.mk [(1000, 1000), (1008, 1008), (1016, 1016), (1024, 1024), (1032, 1032), (1040, 1040), (1048, 1064)] rfl rfl ⟨⟨_, rfl, by first | rfl | (simp only [AV.ren]; congr 1), rfl⟩, ⟨_, rfl, by first | rfl | (simp only [AV.ren]; congr 1), rfl⟩, ⟨_, rfl, by first | rfl | (simp only [AV.ren]; congr 1), rfl⟩, ⟨_, rfl, by first | rfl | (simp only [AV.ren]; congr 1), rfl⟩, ⟨_, rfl, by first | rfl | (simp only [AV.ren]; congr 1), rfl⟩, ⟨_, rfl, by first | rfl | (simp only [AV.ren]; congr 1), rfl⟩, trivial⟩ ⟨⟨_, _, rfl, rfl, rfl, rfl, id, rfl⟩, ⟨_, _, rfl, rfl, rfl, rfl, id, rfl⟩, ⟨_, _, rfl, rfl, (msgO_ren (back [(1000, 1000), (1008, 1008), (1016, 1016), (1024, 1024), (1032, 1032), (1040, 1040), (1048, 1064)]) K 1024 M.us.length 1032 M.ss.length 1040 M.ns.length 1064 (M.bs.length + 1)).trans (by rw [List.length_append]; rfl), rfl, id, msgO_nm (L := [(1000, 1000), (1008, 1008), (1016, 1016), (1024, 1024), (1032, 1032), (1040, 1040), (1048, 1064)]) (a := 1024) (b := 1032) (c := 1040) (d := 1064) K M.us.length M.ss.length M.ns.length (M.bs.length + 1) rfl⟩, HLe.oc (opt_le rfl (fun _ h => h) rfl rfl) (HLe.oc (opt_le rfl (fun _ h => h) rfl rfl) (HLe.oc (opt_le rfl (fun _ h => h) rfl rfl) (HLe.oc (opt_le rfl (fun _ h => by rw [(opt_some h).1]; rfl) rfl rfl) (trivial))))⟩
  ·refine .as (.u8 110) (congrArg AV.u8 h6) ?_
   refine .q (op_bin8 rfl rfl rfl) trivial rfl ?_
   refine .q (op_assign rfl) trivial rfl ?_
   refine .nil ?_
   show Ev _ _ _ _ _
   refine .cond_false rfl (rfl) ?_
   refine .seq ?_
   refine .region ?_
   refine .q (op_bin8 rfl rfl rfl) trivial rfl ?_
   refine .q (op_assign rfl) trivial rfl ?_
   refine .nil ?_
   show Ev _ _ _ _ _
   refine .cond_true rfl (rfl) ?_
   refine .seq ?_
   refine .region ?_
   refine .a (ap_build0 (z := 1) (c := .aggS []) Tryd.underlying23 inf9 rfl) trivial rfl ?_
   refine .q (op_assign rfl) trivial rfl ?_
   refine .nil ?_
   show Ev _ _ _ _ _
   refine .seq ?_
   refine .region ?_
   refine .q (op_loadRow Tryd.underlying71 rfl (by kernel_rfl) rfl rfl rfl (rfl)) trivial rfl ?_
   refine .q (op_call (U := []) [] [] (rnamesd_ev M.i hok (by omega)) Tryd.func35 (by kernel_rfl) rfl rfl rfl (⟨⟨_, rfl, rfl, rfl⟩, trivial⟩) (trivial) (trivial) (trivial) rfl) trivial rfl ?_
   refine .q (op_move rfl) trivial rfl ?_
   refine .q (op_extract rfl rfl) trivial rfl ?_
   refine .q (op_extract rfl rfl) trivial rfl ?_
   refine .w (op_storeRow (by kernel_rfl) rfl rfl rfl rfl rfl (rfl) (rfl)) trivial rfl ?_
   refine .q (op_assign rfl) trivial rfl ?_
   refine .nil ?_
   show Ev _ _ _ _ _
   refine .region ?_
   refine .q (op_fieldAddr (m := 0) Tryd.underlying27 rfl (by kernel_rfl) rfl) trivial rfl ?_
   refine .as (.ptr 1016 3) rfl ?_
   refine .q (op_load Tryd.underlying24 rfl rfl rfl rfl (by show _ < 5; decide)) trivial rfl ?_
   refine .q (op_move rfl) trivial rfl ?_
   refine .a (ap_build (us := [.dsl (namesD M.i).2]) (c := .aggD [(namesD M.i).2]) Tryd.underlying24 inf23 rfl (by decide) (by decide) ⟨rfl, rfl, rfl, trivial⟩ rfl) trivial rfl ?_
   refine .a (ap_append_slO (c := .aggD M.ns) (c' := .aggD (M.ns ++ [(namesD M.i).2])) Tryd.underlying24 Tryd.underlying24 (.inr ⟨_, rfl⟩) inf23 rfl (fun _ h => h) (by show M.ns.length = M.ns.length * 1; omega) (srcs_sl (b := 1064) (o := 0) (m := 1) (z := 1) (k := ⟨.aggD [(namesD M.i).2], 23, true⟩) rfl rfl (Nat.le_refl 1) rfl) (by show (M.ns ++ [(namesD M.i).2]).map _ = _; rw [List.map_append]; rfl) (by decide) (Nat.le_of_ble_eq_true rfl) (by omega)) trivial rfl ?_
   refine .q (op_fieldAddr (m := 0) Tryd.underlying27 rfl (by kernel_rfl) rfl) trivial rfl ?_
   refine .as (.ptr 1016 3) rfl ?_
   refine .w (op_store (by kernel_rfl) rfl rfl rfl rfl rfl (by show _ < 5; decide)) trivial rfl ?_
   refine .nil ?_
   show Ev _ _ _ _ _
   refine .region ?_
   refine .q (op_move rfl) trivial rfl ?_
   refine .q (op_addI rfl rfl ⟨by omega, by omega⟩) trivial rfl ?_
   refine .q (op_assign rfl) trivial rfl ?_
   refine .nil ?_
   have e9 : (parseN (fieldsOf K) ⟨(byteD ⟨s, 0⟩).1, [], [], [], []⟩ (j + 1)) = ⟨(namesD M.i).1, M.us, M.ss, M.ns ++ [(namesD M.i).2], M.bs⟩ := by
    show getP _ _ = _; rw [hM, h6]; rfl
   refine ⟨⟨j + 1, by omega⟩, by (try dsimp only); omega, ?_⟩
   dsimp only
   rw [e9]
   exact StLe.mk [(1000, 1000), (1008, 1008), (1016, 1016), (1024, 1024), (1032, 1032), (1040, 1072), (1048, 1048)] rfl rfl ⟨⟨_, rfl, by first | rfl | (simp only [AV.ren]; congr 1), rfl⟩, ⟨_, rfl, by first | rfl | (simp only [AV.ren]; congr 1), rfl⟩, ⟨_, rfl, by first | rfl | (simp only [AV.ren]; congr 1), rfl⟩, ⟨_, rfl, by first | rfl | (simp only [AV.ren]; congr 1), rfl⟩, ⟨_, rfl, by first | rfl | (simp only [AV.ren]; congr 1), rfl⟩, ⟨_, rfl, by first | rfl | (simp only [AV.ren]; congr 1), rfl⟩, trivial⟩ ⟨⟨_, _, rfl, rfl, rfl, rfl, id, rfl⟩, ⟨_, _, rfl, rfl, rfl, rfl, id, rfl⟩, ⟨_, _, rfl, rfl, (msgO_ren (back [(1000, 1000), (1008, 1008), (1016, 1016), (1024, 1024), (1032, 1032), (1040, 1072), (1048, 1048)]) K 1024 M.us.length 1032 M.ss.length 1072 (M.ns.length + 1) 1048 M.bs.length).trans (by rw [List.length_append]; rfl), rfl, id, msgO_nm (L := [(1000, 1000), (1008, 1008), (1016, 1016), (1024, 1024), (1032, 1032), (1040, 1072), (1048, 1048)]) (a := 1024) (b := 1032) (c := 1072) (d := 1048) K M.us.length M.ss.length (M.ns.length + 1) M.bs.length rfl⟩, HLe.oc (opt_le rfl (fun _ h => h) rfl rfl) (HLe.oc (opt_le rfl (fun _ h => h) rfl rfl) (HLe.oc (opt_le rfl (fun _ h => by rw [(opt_some h).1]; rfl) rfl rfl) (HLe.oc (opt_le rfl (fun _ h => h) rfl rfl) (trivial))))⟩
  ·refine .as (.u8 115) (congrArg AV.u8 h6) ?_
   refine .q (op_bin8 rfl rfl rfl) trivial rfl ?_
   refine .q (op_assign rfl) trivial rfl ?_
   refine .nil ?_
   show Ev _ _ _ _ _
   refine .cond_false rfl (rfl) ?_
   refine .seq ?_
   refine .region ?_
   refine .q (op_bin8 rfl rfl rfl) trivial rfl ?_
   refine .q (op_assign rfl) trivial rfl ?_
   refine .nil ?_
   show Ev _ _ _ _ _
   refine .cond_false rfl (rfl) ?_
   refine .seq ?_
   refine .region ?_
   refine .q (op_bin8 rfl rfl rfl) trivial rfl ?_
   refine .q (op_assign rfl) trivial rfl ?_
   refine .nil ?_
   show Ev _ _ _ _ _
   refine .cond_false rfl (rfl) ?_
   refine .seq ?_
   refine .region ?_
   refine .q (op_bin8 rfl rfl rfl) trivial rfl ?_
   refine .q (op_assign rfl) trivial rfl ?_
   refine .nil ?_
   show Ev _ _ _ _ _
   refine .cond_true rfl (rfl) ?_
   refine .seq ?_
   refine .region ?_
   refine .q (op_loadRow Tryd.underlying71 rfl (by kernel_rfl) rfl rfl rfl (rfl)) trivial rfl ?_
   refine .q (op_call (U := []) [] [] (rtext_ev M.i hok 32768) Tryd.func36 (by kernel_rfl) rfl rfl rfl (⟨⟨_, rfl, rfl, rfl⟩, ⟨_, rfl, rfl, rfl⟩, trivial⟩) (trivial) (trivial) (trivial) rfl) trivial rfl ?_
   refine .q (op_move rfl) trivial rfl ?_
   refine .q (op_extract rfl rfl) trivial rfl ?_
   refine .q (op_extract rfl rfl) trivial rfl ?_
   refine .w (op_storeRow (by kernel_rfl) rfl rfl rfl rfl rfl (rfl) (rfl)) trivial rfl ?_
   refine .q (op_assign rfl) trivial rfl ?_
   refine .nil ?_
   show Ev _ _ _ _ _
   refine .region ?_
   refine .q (op_fieldAddr (m := 0) Tryd.underlying27 rfl (by kernel_rfl) rfl) trivial rfl ?_
   refine .as (.ptr 1016 2) rfl ?_
   refine .q (op_load Tryd.underlying23 rfl rfl rfl rfl (by show _ < 5; decide)) trivial rfl ?_
   refine .q (op_move rfl) trivial rfl ?_
   refine .a (ap_build (us := [.str (textD M.i 32768).2]) (c := .aggS [(textD M.i 32768).2]) Tryd.underlying23 inf9 rfl (by decide) (by decide) ⟨rfl, rfl, rfl, trivial⟩ rfl) trivial rfl ?_
   refine .a (ap_append_slO (c := .aggS M.ss) (c' := .aggS (M.ss ++ [(textD M.i 32768).2])) Tryd.underlying23 Tryd.underlying23 (.inr ⟨_, rfl⟩) inf9 rfl (fun _ h => h) (by show M.ss.length = M.ss.length * 1; omega) (srcs_sl (b := 1056) (o := 0) (m := 1) (z := 1) (k := ⟨.aggS [(textD M.i 32768).2], 9, true⟩) rfl rfl (Nat.le_refl 1) rfl) (by show (M.ss ++ [(textD M.i 32768).2]).map _ = _; rw [List.map_append]; rfl) (by decide) (Nat.le_of_ble_eq_true rfl) (by omega)) trivial rfl ?_
   refine .q (op_fieldAddr (m := 0) Tryd.underlying27 rfl (by kernel_rfl) rfl) trivial rfl ?_
   refine .as (.ptr 1016 2) rfl ?_
   refine .w (op_store (by kernel_rfl) rfl rfl rfl rfl rfl (by show _ < 5; decide)) trivial rfl ?_
   refine .nil ?_
   show Ev _ _ _ _ _
   refine .region ?_
   refine .q (op_move rfl) trivial rfl ?_
   refine .q (op_addI rfl rfl ⟨by omega, by omega⟩) trivial rfl ?_
   refine .q (op_assign rfl) trivial rfl ?_
   refine .nil ?_
   have e9 : (parseN (fieldsOf K) ⟨(byteD ⟨s, 0⟩).1, [], [], [], []⟩ (j + 1)) = ⟨(textD M.i 32768).1, M.us, M.ss ++ [(textD M.i 32768).2], M.ns, M.bs⟩ := by
    show getP _ _ = _; rw [hM, h6]; rfl
   refine ⟨⟨j + 1, by omega⟩, by (try dsimp only); omega, ?_⟩
   dsimp only
   rw [e9]
   exact StLe.mk [(1000, 1000), (1008, 1008), (1016, 1016), (1024, 1024), (1032, 1064), (1040, 1040), (1048, 1048)] rfl rfl ⟨⟨_, rfl, by first | rfl | (simp only [AV.ren]; congr 1), rfl⟩, ⟨_, rfl, by first | rfl | (simp only [AV.ren]; congr 1), rfl⟩, ⟨_, rfl, by first | rfl | (simp only [AV.ren]; congr 1), rfl⟩, ⟨_, rfl, by first | rfl | (simp only [AV.ren]; congr 1), rfl⟩, ⟨_, rfl, by first | rfl | (simp only [AV.ren]; congr 1), rfl⟩, ⟨_, rfl, by first | rfl | (simp only [AV.ren]; congr 1), rfl⟩, trivial⟩ ⟨⟨_, _, rfl, rfl, rfl, rfl, id, rfl⟩, ⟨_, _, rfl, rfl, rfl, rfl, id, rfl⟩, ⟨_, _, rfl, rfl, (msgO_ren (back [(1000, 1000), (1008, 1008), (1016, 1016), (1024, 1024), (1032, 1064), (1040, 1040), (1048, 1048)]) K 1024 M.us.length 1064 (M.ss.length + 1) 1040 M.ns.length 1048 M.bs.length).trans (by rw [List.length_append]; rfl), rfl, id, msgO_nm (L := [(1000, 1000), (1008, 1008), (1016, 1016), (1024, 1024), (1032, 1064), (1040, 1040), (1048, 1048)]) (a := 1024) (b := 1064) (c := 1040) (d := 1048) K M.us.length (M.ss.length + 1) M.ns.length M.bs.length rfl⟩, HLe.oc (opt_le rfl (fun _ h => h) rfl rfl) (HLe.oc (opt_le rfl (fun _ h => by rw [(opt_some h).1]; rfl) rfl rfl) (HLe.oc (opt_le rfl (fun _ h => h) rfl rfl) (HLe.oc (opt_le rfl (fun _ h => h) rfl rfl) (trivial))))⟩
  ·refine .as (.u8 99) (congrArg AV.u8 h6) ?_
   refine .q (op_bin8 rfl rfl rfl) trivial rfl ?_
   refine .q (op_assign rfl) trivial rfl ?_
   refine .nil ?_
   show Ev _ _ _ _ _
   refine .cond_false rfl (rfl) ?_
   refine .seq ?_
   refine .region ?_
   refine .q (op_bin8 rfl rfl rfl) trivial rfl ?_
   refine .q (op_assign rfl) trivial rfl ?_
   refine .nil ?_
   show Ev _ _ _ _ _
   refine .cond_false rfl (rfl) ?_
   refine .seq ?_
   refine .region ?_
   refine .q (op_bin8 rfl rfl rfl) trivial rfl ?_
   refine .q (op_assign rfl) trivial rfl ?_
   refine .nil ?_
   show Ev _ _ _ _ _
   refine .cond_false rfl (rfl) ?_
   refine .seq ?_
   refine .region ?_
   refine .q (op_bin8 rfl rfl rfl) trivial rfl ?_
   refine .q (op_assign rfl) trivial rfl ?_
   refine .nil ?_
   show Ev _ _ _ _ _
   refine .cond_false rfl (rfl) ?_
   refine .seq ?_
   refine .region ?_
   refine .q (op_bin8 rfl rfl rfl) trivial rfl ?_
   refine .q (op_assign rfl) trivial rfl ?_
   refine .nil ?_
   show Ev _ _ _ _ _
   refine .cond_true rfl (rfl) ?_
   refine .seq ?_
   refine .region ?_
   refine .q (op_loadRow Tryd.underlying71 rfl (by kernel_rfl) rfl rfl rfl (rfl)) trivial rfl ?_
   refine .q (op_call (U := []) [] [] (rraw_ev M.i hok 16) Tryd.func37 (by kernel_rfl) rfl rfl rfl (⟨⟨_, rfl, rfl, rfl⟩, ⟨_, rfl, rfl, rfl⟩, trivial⟩) (trivial) (trivial) (trivial) rfl) trivial rfl ?_
   refine .q (op_move rfl) trivial rfl ?_
   refine .q (op_extract rfl rfl) trivial rfl ?_
   refine .q (op_extract rfl rfl) trivial rfl ?_
   refine .w (op_storeRow (by kernel_rfl) rfl rfl rfl rfl rfl (rfl) (rfl)) trivial rfl ?_
   refine .q (op_assign rfl) trivial rfl ?_
   refine .nil ?_
   show Ev _ _ _ _ _
   refine .region ?_
   refine .q (op_fieldAddr (m := 0) Tryd.underlying27 rfl (by kernel_rfl) rfl) trivial rfl ?_
   refine .as (.ptr 1016 2) rfl ?_
   refine .q (op_load Tryd.underlying23 rfl rfl rfl rfl (by show _ < 5; decide)) trivial rfl ?_
   refine .q (op_move rfl) trivial rfl ?_
   refine .a (ap_build (us := [.str (rawD M.i 16).2]) (c := .aggS [(rawD M.i 16).2]) Tryd.underlying23 inf9 rfl (by decide) (by decide) ⟨rfl, rfl, rfl, trivial⟩ rfl) trivial rfl ?_
   refine .a (ap_append_slO (c := .aggS M.ss) (c' := .aggS (M.ss ++ [(rawD M.i 16).2])) Tryd.underlying23 Tryd.underlying23 (.inr ⟨_, rfl⟩) inf9 rfl (fun _ h => h) (by show M.ss.length = M.ss.length * 1; omega) (srcs_sl (b := 1056) (o := 0) (m := 1) (z := 1) (k := ⟨.aggS [(rawD M.i 16).2], 9, true⟩) rfl rfl (Nat.le_refl 1) rfl) (by show (M.ss ++ [(rawD M.i 16).2]).map _ = _; rw [List.map_append]; rfl) (by decide) (Nat.le_of_ble_eq_true rfl) (by omega)) trivial rfl ?_
   refine .q (op_fieldAddr (m := 0) Tryd.underlying27 rfl (by kernel_rfl) rfl) trivial rfl ?_
   refine .as (.ptr 1016 2) rfl ?_
   refine .w (op_store (by kernel_rfl) rfl rfl rfl rfl rfl (by show _ < 5; decide)) trivial rfl ?_
   refine .nil ?_
   show Ev _ _ _ _ _
   refine .region ?_
   refine .q (op_move rfl) trivial rfl ?_
   refine .q (op_addI rfl rfl ⟨by omega, by omega⟩) trivial rfl ?_
   refine .q (op_assign rfl) trivial rfl ?_
   refine .nil ?_
   have e9 : (parseN (fieldsOf K) ⟨(byteD ⟨s, 0⟩).1, [], [], [], []⟩ (j + 1)) = ⟨(rawD M.i 16).1, M.us, M.ss ++ [(rawD M.i 16).2], M.ns, M.bs⟩ := by
    show getP _ _ = _; rw [hM, h6]; rfl
   refine ⟨⟨j + 1, by omega⟩, by (try dsimp only); omega, ?_⟩
   dsimp only
   rw [e9]
   exact StLe.mk [(1000, 1000), (1008, 1008), (1016, 1016), (1024, 1024), (1032, 1064), (1040, 1040), (1048, 1048)] rfl rfl ⟨⟨_, rfl, by first | rfl | (simp only [AV.ren]; congr 1), rfl⟩, ⟨_, rfl, by first | rfl | (simp only [AV.ren]; congr 1), rfl⟩, ⟨_, rfl, by first | rfl | (simp only [AV.ren]; congr 1), rfl⟩, ⟨_, rfl, by first | rfl | (simp only [AV.ren]; congr 1), rfl⟩, ⟨_, rfl, by first | rfl | (simp only [AV.ren]; congr 1), rfl⟩, ⟨_, rfl, by first | rfl | (simp only [AV.ren]; congr 1), rfl⟩, trivial⟩ ⟨⟨_, _, rfl, rfl, rfl, rfl, id, rfl⟩, ⟨_, _, rfl, rfl, rfl, rfl, id, rfl⟩, ⟨_, _, rfl, rfl, (msgO_ren (back [(1000, 1000), (1008, 1008), (1016, 1016), (1024, 1024), (1032, 1064), (1040, 1040), (1048, 1048)]) K 1024 M.us.length 1064 (M.ss.length + 1) 1040 M.ns.length 1048 M.bs.length).trans (by rw [List.length_append]; rfl), rfl, id, msgO_nm (L := [(1000, 1000), (1008, 1008), (1016, 1016), (1024, 1024), (1032, 1064), (1040, 1040), (1048, 1048)]) (a := 1024) (b := 1064) (c := 1040) (d := 1048) K M.us.length (M.ss.length + 1) M.ns.length M.bs.length rfl⟩, HLe.oc (opt_le rfl (fun _ h => h) rfl rfl) (HLe.oc (opt_le rfl (fun _ h => by rw [(opt_some h).1]; rfl) rfl rfl) (HLe.oc (opt_le rfl (fun _ h => h) rfl rfl) (HLe.oc (opt_le rfl (fun _ h => h) rfl rfl) (trivial))))⟩
  ·refine .as (.u8 114) (congrArg AV.u8 h6) ?_
   refine .q (op_bin8 rfl rfl rfl) trivial rfl ?_
   refine .q (op_assign rfl) trivial rfl ?_
   refine .nil ?_
   show Ev _ _ _ _ _
   refine .cond_false rfl (rfl) ?_
   refine .seq ?_
   refine .region ?_
   refine .q (op_bin8 rfl rfl rfl) trivial rfl ?_
   refine .q (op_assign rfl) trivial rfl ?_
   refine .nil ?_
   show Ev _ _ _ _ _
   refine .cond_false rfl (rfl) ?_
   refine .seq ?_
   refine .region ?_
   refine .q (op_bin8 rfl rfl rfl) trivial rfl ?_
   refine .q (op_assign rfl) trivial rfl ?_
   refine .nil ?_
   show Ev _ _ _ _ _
   refine .cond_false rfl (rfl) ?_
   refine .seq ?_
   refine .region ?_
   refine .q (op_bin8 rfl rfl rfl) trivial rfl ?_
   refine .q (op_assign rfl) trivial rfl ?_
   refine .nil ?_
   show Ev _ _ _ _ _
   refine .cond_false rfl (rfl) ?_
   refine .seq ?_
   refine .region ?_
   refine .q (op_bin8 rfl rfl rfl) trivial rfl ?_
   refine .q (op_assign rfl) trivial rfl ?_
   refine .nil ?_
   show Ev _ _ _ _ _
   refine .cond_false rfl (rfl) ?_
   refine .seq ?_
   refine .region ?_
   refine .q (op_loadRow Tryd.underlying71 rfl (by kernel_rfl) rfl rfl rfl (rfl)) trivial rfl ?_
   refine .q (op_fieldAddr (m := 0) Tryd.underlying71 rfl (by kernel_rfl) rfl) trivial rfl ?_
   refine .as (.ptr 1008 0) rfl ?_
   refine .q (op_load Tryd.underlying9 rfl rfl rfl rfl (by show _ < 2; decide)) trivial rfl ?_
   refine .q (op_len_str Tryd.underlying9 rfl) trivial rfl ?_
   refine .q (op_call (U := []) [] [] (rraw_ev M.i hok (M.i.r.length : Int)) Tryd.func37 (by kernel_rfl) rfl rfl rfl (⟨⟨_, rfl, rfl, rfl⟩, ⟨_, rfl, rfl, rfl⟩, trivial⟩) (trivial) (trivial) (trivial) rfl) trivial rfl ?_
   refine .q (op_move rfl) trivial rfl ?_
   refine .q (op_extract rfl rfl) trivial rfl ?_
   refine .q (op_extract rfl rfl) trivial rfl ?_
   refine .w (op_storeRow (by kernel_rfl) rfl rfl rfl rfl rfl (rfl) (rfl)) trivial rfl ?_
   refine .q (op_assign rfl) trivial rfl ?_
   refine .nil ?_
   show Ev _ _ _ _ _
   refine .region ?_
   refine .q (op_fieldAddr (m := 0) Tryd.underlying27 rfl (by kernel_rfl) rfl) trivial rfl ?_
   refine .as (.ptr 1016 2) rfl ?_
   refine .q (op_load Tryd.underlying23 rfl rfl rfl rfl (by show _ < 5; decide)) trivial rfl ?_
   refine .q (op_move rfl) trivial rfl ?_
   refine .a (ap_build (us := [.str (rawD M.i M.i.r.length).2]) (c := .aggS [(rawD M.i M.i.r.length).2]) Tryd.underlying23 inf9 rfl (by decide) (by decide) ⟨rfl, rfl, rfl, trivial⟩ rfl) trivial rfl ?_
   refine .a (ap_append_slO (c := .aggS M.ss) (c' := .aggS (M.ss ++ [(rawD M.i M.i.r.length).2])) Tryd.underlying23 Tryd.underlying23 (.inr ⟨_, rfl⟩) inf9 rfl (fun _ h => h) (by show M.ss.length = M.ss.length * 1; omega) (srcs_sl (b := 1056) (o := 0) (m := 1) (z := 1) (k := ⟨.aggS [(rawD M.i M.i.r.length).2], 9, true⟩) rfl rfl (Nat.le_refl 1) rfl) (by show (M.ss ++ [(rawD M.i M.i.r.length).2]).map _ = _; rw [List.map_append]; rfl) (by decide) (Nat.le_of_ble_eq_true rfl) (by omega)) trivial rfl ?_
   refine .q (op_fieldAddr (m := 0) Tryd.underlying27 rfl (by kernel_rfl) rfl) trivial rfl ?_
   refine .as (.ptr 1016 2) rfl ?_
   refine .w (op_store (by kernel_rfl) rfl rfl rfl rfl rfl (by show _ < 5; decide)) trivial rfl ?_
   refine .nil ?_
   show Ev _ _ _ _ _
   refine .region ?_
   refine .q (op_move rfl) trivial rfl ?_
   refine .q (op_addI rfl rfl ⟨by omega, by omega⟩) trivial rfl ?_
   refine .q (op_assign rfl) trivial rfl ?_
   refine .nil ?_
   have e9 : (parseN (fieldsOf K) ⟨(byteD ⟨s, 0⟩).1, [], [], [], []⟩ (j + 1)) = ⟨(rawD M.i M.i.r.length).1, M.us, M.ss ++ [(rawD M.i M.i.r.length).2], M.ns, M.bs⟩ := by
    show getP _ _ = _; rw [hM, h6]; rfl
   refine ⟨⟨j + 1, by omega⟩, by (try dsimp only); omega, ?_⟩
   dsimp only
   rw [e9]
   exact StLe.mk [(1000, 1000), (1008, 1008), (1016, 1016), (1024, 1024), (1032, 1064), (1040, 1040), (1048, 1048)] rfl rfl ⟨⟨_, rfl, by first | rfl | (simp only [AV.ren]; congr 1), rfl⟩, ⟨_, rfl, by first | rfl | (simp only [AV.ren]; congr 1), rfl⟩, ⟨_, rfl, by first | rfl | (simp only [AV.ren]; congr 1), rfl⟩, ⟨_, rfl, by first | rfl | (simp only [AV.ren]; congr 1), rfl⟩, ⟨_, rfl, by first | rfl | (simp only [AV.ren]; congr 1), rfl⟩, ⟨_, rfl, by first | rfl | (simp only [AV.ren]; congr 1), rfl⟩, trivial⟩ ⟨⟨_, _, rfl, rfl, rfl, rfl, id, rfl⟩, ⟨_, _, rfl, rfl, rfl, rfl, id, rfl⟩, ⟨_, _, rfl, rfl, (msgO_ren (back [(1000, 1000), (1008, 1008), (1016, 1016), (1024, 1024), (1032, 1064), (1040, 1040), (1048, 1048)]) K 1024 M.us.length 1064 (M.ss.length + 1) 1040 M.ns.length 1048 M.bs.length).trans (by rw [List.length_append]; rfl), rfl, id, msgO_nm (L := [(1000, 1000), (1008, 1008), (1016, 1016), (1024, 1024), (1032, 1064), (1040, 1040), (1048, 1048)]) (a := 1024) (b := 1064) (c := 1040) (d := 1048) K M.us.length (M.ss.length + 1) M.ns.length M.bs.length rfl⟩, HLe.oc (opt_le rfl (fun _ h => h) rfl rfl) (HLe.oc (opt_le rfl (fun _ h => by rw [(opt_some h).1]; rfl) rfl rfl) (HLe.oc (opt_le rfl (fun _ h => h) rfl rfl) (HLe.oc (opt_le rfl (fun _ h => h) rfl rfl) (trivial))))⟩
 ·simp only [decide_eq_true_eq, decide_eq_false_iff_not, beq_iff_eq, bne_iff_ne, ne_eq, beq_eq_false_iff_ne, bne_eq_false_iff_eq] at hc41
  refine .exit ?_
  show Ev _ _ _ _ _
  have ej : j = (fieldsOf K).length := by omega
  subst ej
  have eM : R = M := hR.symm.trans hM
  subst eM
  refine .seq ?_
  refine .seq ?_
  refine .region ?_
  refine .q (op_fieldAddr (m := 0) Tryd.underlying71 rfl (by kernel_rfl) rfl) trivial rfl ?_
  refine .as (.ptr 1008 1) rfl ?_
  refine .q (op_load Tryd.underlying3 rfl rfl rfl rfl (by show _ < 2; decide)) trivial rfl ?_
  refine .q (op_cmpI rfl rfl rfl) trivial rfl ?_
  refine .nil ?_
  show Ev _ _ _ _ _
  refine .cond_false rfl (by rw [he]; rfl) ?_
  refine .skip ?_
  show Ev _ _ _ _ _
  refine .seq ?_
  refine .seq ?_
  refine .region ?_
  refine .q (op_fieldAddr (m := 0) Tryd.underlying71 rfl (by kernel_rfl) rfl) trivial rfl ?_
  refine .as (.ptr 1008 0) rfl ?_
  refine .q (op_load Tryd.underlying9 rfl rfl rfl rfl (by show _ < 2; decide)) trivial rfl ?_
  refine .q (op_eqS rfl rfl rfl) trivial rfl ?_
  refine .nil ?_
  show Ev _ _ _ _ _
  refine .cond_false rfl (by rw [hl]; rfl) ?_
  refine .skip ?_
  show Ev _ _ _ _ _
  refine .seq ?_
  refine .seq ?_
  refine Ev.weak (StLe.freezeO (cb := 1016) (i := 1) (b := 1024) (n := R.us.length) (c := .agg32 R.us) (e := 46) (Nat.le_of_ble_eq_true rfl) rfl rfl rfl (by decide) (List.length_map _) (fun x hx => by obtain ⟨_, _, rfl⟩ := List.mem_map.1 (show x ∈ R.us.map AV.u32 from hx); rfl) (cells5 (by first | rfl | exact slO_cell _ _ _) (by first | rfl | exact slO_cell _ _ _) (by first | rfl | exact slO_cell _ _ _) (by first | rfl | exact slO_cell _ _ _) (by first | rfl | exact slO_cell _ _ _))) ?_
  refine Ev.weak (StLe.freezeO (cb := 1016) (i := 2) (b := 1032) (n := R.ss.length) (c := .aggS R.ss) (e := 9) (Nat.le_of_ble_eq_true rfl) rfl rfl rfl (by decide) (List.length_map _) (fun x hx => by obtain ⟨_, _, rfl⟩ := List.mem_map.1 (show x ∈ R.ss.map AV.str from hx); rfl) (cells5 (by first | rfl | exact slO_cell _ _ _) (by first | rfl | exact slO_cell _ _ _) (by first | rfl | exact slO_cell _ _ _) (by first | rfl | exact slO_cell _ _ _) (by first | rfl | exact slO_cell _ _ _))) ?_
  refine Ev.weak (StLe.freezeO (cb := 1016) (i := 3) (b := 1040) (n := R.ns.length) (c := .aggD R.ns) (e := 23) (Nat.le_of_ble_eq_true rfl) rfl rfl rfl (by decide) (List.length_map _) (fun x hx => by obtain ⟨_, _, rfl⟩ := List.mem_map.1 (show x ∈ R.ns.map AV.dsl from hx); rfl) (cells5 (by first | rfl | exact slO_cell _ _ _) (by first | rfl | exact slO_cell _ _ _) (by first | rfl | exact slO_cell _ _ _) (by first | rfl | exact slO_cell _ _ _) (by first | rfl | exact slO_cell _ _ _))) ?_
  refine Ev.weak (StLe.freezeO (cb := 1016) (i := 4) (b := 1048) (n := R.bs.length) (c := .aggT R.bs) (e := 4) (Nat.le_of_ble_eq_true rfl) rfl rfl rfl (by decide) (List.length_map _) (fun x hx => by obtain ⟨_, _, rfl⟩ := List.mem_map.1 (show x ∈ R.bs.map AV.bool from hx); rfl) (cells5 (by first | rfl | exact slO_cell _ _ _) (by first | rfl | exact slO_cell _ _ _) (by first | rfl | exact slO_cell _ _ _) (by first | rfl | exact slO_cell _ _ _) (by first | rfl | exact slO_cell _ _ _))) ?_
  refine Ev.weak (StLe.weakB (cb := 1016) (ec := 27) (oc := true) (cs := [.i64 K, .fsl (R.us.map AV.u32) R.us.length 1, .fsl (R.ss.map AV.str) R.ss.length 1, .fsl (R.ns.map AV.dsl) R.ns.length 1, .fsl (R.bs.map AV.bool) R.bs.length 1]) (cs' := [.i64 K, .fsl (R.us.map AV.u32) R.us.length 1, .dsl R.ss, .fsl (R.ns.map AV.dsl) R.ns.length 1, .fsl (R.bs.map AV.bool) R.bs.length 1]) (Nat.le_of_ble_eq_true rfl) rfl rfl (weak5 rfl rfl rfl rfl rfl (fun _ _ h => h) (fsl_dsl rfl) (fun _ _ h => h) (fun _ _ h => h))) ?_
  show Ev _ _ _ _ _
  refine .region ?_
  refine .q (op_loadRow Tryd.underlying27 rfl (by kernel_rfl) rfl rfl rfl (rfl)) trivial rfl ?_
  refine .q (op_call (U := []) [] [] (rcheck_f K R hk hI.u hI.s hI.n hI.b (by omega) (hI.c he) (fun i => Nat.le_trans (hI.l i) (by omega)) hI.o (fun i => Nat.le_trans (hI.k i) (by omega))) Tryd.func9 (by kernel_rfl) rfl rfl rfl (⟨⟨_, rfl, rfl, rfl⟩, trivial⟩) (trivial) (trivial) (trivial) rfl) trivial rfl ?_
  refine .q (op_assign rfl) trivial rfl ?_
  refine .nil ?_
  show Ev _ _ _ _ _
  refine .seq ?_
  refine .region ?_
  refine .q (op_move rfl) trivial rfl ?_
  refine .q (op_cmpI rfl rfl rfl) trivial rfl ?_
  refine .nil ?_
  show Ev _ _ _ _ _
  refine .cond_false rfl (rfl) ?_
  refine .skip ?_
  show Ev _ _ _ _ _
  refine .seq ?_
  refine .region ?_
  refine .q (op_loadRow Tryd.underlying27 rfl (by kernel_rfl) rfl rfl rfl (rfl)) trivial rfl ?_
  refine .w (op_storeRow (by kernel_rfl) rfl rfl rfl rfl rfl (rfl) (rfl)) trivial rfl ?_
  refine .q (op_assign rfl) trivial rfl ?_
  refine .nil ?_
  show Ev _ _ _ _ _
  refine .ret ?_
  show RetOk _ _ _ _ _ _ _
  exact retc2 rfl (.inl rfl) ⟨_, _, _, _, rfl, rfl, rfl, rfl, rfl, Tryd.underlying27, rfl, (by kernel_rfl)⟩ rfl trivial
end Go.Proofs.YtgnicenhnchglaaDoor
namespace Go.Proofs.YtgnicenhnchglaaDoor
open Go.RowKit
/-- The errors that reading may end with. -/
def E4 (e : Nat) : Prop := e = 0 ∨ e = 2 ∨ e = 3 ∨ e = 4
theorem orE_E4 {a b : Nat} (ha : E4 a) (hb : E4 b) : E4 (orE a b) := by
  cases a with
  | zero => exact hb
  | succ n => exact ha
theorem failD_E4 {i : DI} {x : Nat} (h : E4 i.e) (hx : E4 x) : E4 (failD i x).e := orE_E4 h hx
theorem rawD_E4 {i : DI} (n : Nat) (h : E4 i.e) : E4 (rawD i n).1.e := by
  unfold rawD
  split
  · exact h
  · exact failD_E4 h (.inr (.inl rfl))
theorem textD_E4 {i : DI} (m : Int) (h : E4 i.e) : E4 (textD i m).1.e := by
  unfold textD
  split
  · exact failD_E4 (rawD_E4 4 h) (.inr (.inr (.inr rfl)))
  · exact rawD_E4 _ (rawD_E4 4 h)
theorem namesD_E4 {i : DI} (h : E4 i.e) : E4 (namesD i).1.e := by
  unfold namesD
  split
  · exact textD_E4 _ h
  · split
    · exact textD_E4 _ h
    · exact failD_E4 (textD_E4 _ h) (.inr (.inr (.inl rfl)))
theorem getP_E4 (l : UInt8) {m : MSt} (h : E4 m.i.e) : E4 (getP l m).i.e := by
  unfold getP
  repeat' split
  · exact rawD_E4 _ h
  · exact rawD_E4 _ h
  · exact namesD_E4 h
  · exact textD_E4 _ h
  · exact rawD_E4 _ h
  · exact rawD_E4 _ h
theorem parseN_E4 (fs : List UInt8) (m : MSt) (h : E4 m.i.e) : ∀ j, E4 (parseN fs m j).i.e
  | 0 => h
  | j + 1 => getP_E4 _ (parseN_E4 fs m h j)
/-- What both Parses give of the bytes s. -/
structure PB (s : List UInt8) where
  K : Int
  us : List UInt32
  ss : List (List UInt8)
  ns : List (List (List UInt8))
  bs : List Bool
  e : Nat
  he : e = 0 ∨ e = 2 ∨ e = 3 ∨ e = 4 ∨ e = 20
  hu : us.length ≤ 1000000
  hs : ss.length ≤ 1000000
  hn : ns.length ≤ 1000000
  hb : bs.length ≤ 1000000
  hj : ∀ i, (ns.getD i []).length ≤ 1000000
  hp : ∀ eo : Nat → Nat × Nat, Meets Tryd.prog 12 [.str s] [(1, some ⟨.agg [.err 141 (2) (offE eo (2))], errT, false⟩), (3, some ⟨.agg [.err 141 (4) (offE eo (4))], errT, false⟩), (2, some ⟨.agg [.err 141 (3) (offE eo (3))], errT, false⟩), (20, some ⟨.agg kindCells, errT, false⟩), (19, some ⟨.agg [.err 141 (20) (offE eo (20))], errT, false⟩)] (.tup [.agg [.i64 K, .fsl (List.map AV.u32 us) (us).length 1, .dsl ss, .fsl (List.map AV.dsl ns) (ns).length 1, .fsl (List.map AV.bool bs) (bs).length 1], .err 141 e (offE eo e)]) []
  hr : Meets Tryd.prog 15 [.str s] [] (.tup [.agg [.i64 K, .fsl (List.map AV.u32 us) (us).length 1, .dsl ss, .fsl (List.map AV.dsl ns) (ns).length 1, .fsl (List.map AV.bool bs) (bs).length 1], .i64 (e : Int)]) []
theorem both (s : List UInt8) (hs : s.length ≤ 1000) : Nonempty (PB s) := by
  by_cases h0 : s = []
  · subst h0
    exact ⟨⟨0, [], [], [], [], 2, .inr (.inl rfl), Nat.zero_le _, Nat.zero_le _, Nat.zero_le _, Nat.zero_le _, fun i => Nat.zero_le _, fun eo => (parsez_ev eo).weakV (tup2_weak zero_still id_rel), rparsez_ev.weakV (tup2_weak zero_still id_rel)⟩⟩
  have hb0 : (byteD ⟨s, 0⟩).1.r.length ≤ s.length := (rawD_len_le ⟨s, 0⟩ 1).2
  have he0 : (byteD ⟨s, 0⟩).1.e = 0 := by
    show (rawD ⟨s, 0⟩ 1).1.e = 0
    unfold rawD
    rw [if_pos (by show 1 ≤ s.length; cases s with | nil => exact absurd rfl h0 | cons c l => simp)]
  cases hk : isKind (((byteD ⟨s, 0⟩).2.toNat : Nat) : Int) with
  | false => exact ⟨⟨0, [], [], [], [], 20, .inr (.inr (.inr (.inr rfl))), Nat.zero_le _, Nat.zero_le _, Nat.zero_le _, Nat.zero_le _, fun i => Nat.zero_le _, fun eo => (parsek_ev s h0 _ rfl hk eo).weakV (tup2_weak zero_still id_rel), (rparsek_ev s he0 _ rfl hk).weakV (tup2_weak zero_still id_rel)⟩⟩
  | true =>
    generalize hK : (((byteD ⟨s, 0⟩).2.toNat : Nat) : Int) = K at hk
    generalize hR : parseN (fieldsOf K) ⟨(byteD ⟨s, 0⟩).1, [], [], [], []⟩ (fieldsOf K).length = R
    have hI0 := mi9 (fieldsOf K) ⟨(byteD ⟨s, 0⟩).1, [], [], [], []⟩ ⟨rfl, rfl, rfl, rfl⟩ (fields_six K) _ (Nat.le_refl _)
    have hok : R.i.ok := by rw [← hR]; exact parseN_ok _ _ (byteD_ok s) _
    have h4 : E4 R.i.e := by rw [← hR]; exact parseN_E4 _ _ (.inl he0) _
    have hle := parseN_le (fieldsOf K) ⟨(byteD ⟨s, 0⟩).1, [], [], [], []⟩ (fieldsOf K).length
    have hf := fields_len K
    rw [hR] at hI0 hle
    dsimp only at hle hI0
    simp only [List.length_nil, Nat.zero_add] at hle
    obtain ⟨l0, l1, l2, l3, l4⟩ := hle
    have hI : MI9 (fieldsOf K) s.length (fieldsOf K).length R := ⟨hI0.u, hI0.s, hI0.n, hI0.b, Nat.le_trans hI0.r hb0, fun i => Nat.le_trans (hI0.l i) hb0, hI0.o, fun i => Nat.le_trans (hI0.k i) hb0, hI0.c⟩
    by_cases he : R.i.e = 0
    · by_cases hl : R.i.r = []
      · have hE : endD R.i = R.i := by unfold endD; rw [if_pos hl]
        refine ⟨⟨K, R.us, R.ss, R.ns, R.bs, 0, .inl rfl, by omega, by omega, by omega, by omega, fun i => ?_, fun eo => (parse_good s h0 hs K hK.symm hk R hR (by rw [hE]; exact he) (by omega) (by omega) (fun i => Nat.le_trans (hI.l i) (by omega)) (fun i => Nat.le_trans (hI.k i) (by omega)) eo).weakV (tup2_weak id_rel (nil_err _ _)), rparse_good s he0 hs K hK.symm hk R hR he hl hI (by omega)⟩⟩
        have h9 := hI.k i
        rw [joinB_len] at h9
        omega
      · have hE : (endD R.i).e = 3 := by unfold endD; rw [if_neg hl]; show orE R.i.e 3 = 3; rw [he]; rfl
        refine ⟨⟨0, [], [], [], [], 3, .inr (.inr (.inl rfl)), Nat.zero_le _, Nat.zero_le _, Nat.zero_le _, Nat.zero_le _, fun i => Nat.zero_le _, fun eo => ?_, (rparse_left s he0 hs K hK.symm hk R hR he hl).weakV (tup2_weak zero_still id_rel)⟩⟩
        have h9 := parse_bad s h0 hs K hK.symm hk R hR (by rw [hE]; decide) eo
        rw [hE] at h9
        exact h9.weakV (tup2_weak zero_still id_rel)
    · have hE : endD R.i = R.i := by unfold endD; rw [if_pos (hok he)]
      have h9 := fun eo => parse_bad s h0 hs K hK.symm hk R hR (by rw [hE]; exact he) eo
      rw [hE] at h9
      exact ⟨⟨0, [], [], [], [], R.i.e, by rcases h4 with h | h | h | h <;> simp [h], Nat.zero_le _, Nat.zero_le _, Nat.zero_le _, Nat.zero_le _, fun i => Nat.zero_le _, fun eo => (h9 eo).weakV (tup2_weak zero_still id_rel), (rparse_bad s he0 hs K hK.symm hk R hR he).weakV (tup2_weak zero_still id_rel)⟩⟩
end Go.Proofs.YtgnicenhnchglaaDoor
