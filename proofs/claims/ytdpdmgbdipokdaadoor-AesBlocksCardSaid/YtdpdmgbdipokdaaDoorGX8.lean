/-
  Texts of this claim.
-/
import Derived.Deep.SlicePairs
import Derived.Test.YtdpdmgbdipokdaaDoorGX7
import Derived.Test.YtdpdmgbdipokdaaDoorGTC
namespace Go.Proofs.YtdpdmgbdipokdaaDoor
open Go.RowKit
theorem whole_ky (kB : List UInt8) (sz : Int) : (AV.agg (kB.map .u8 ++ [.i64 sz])).rowWhole = true := by
  show (kB.map AV.u8 ++ [AV.i64 sz]).all AV.one = true
  rw [List.all_append, List.all_map, Bool.and_eq_true]
  exact ⟨List.all_eq_true.2 fun _ _ => rfl, rfl⟩
theorem ren_ky (kB : List UInt8) (sz : Int) (g : Nat → Nat) : (AV.agg (kB.map .u8 ++ [.i64 sz])).ren g = .agg (kB.map .u8 ++ [.i64 sz]) := by
  show AV.agg (AV.renL g (kB.map .u8 ++ [.i64 sz])) = _
  rw [renL_eq, List.map_append, List.map_map]; rfl
theorem names_ky (kB : List UInt8) (sz : Int) : (AV.agg (kB.map .u8 ++ [.i64 sz])).names = [] := names_u8 kB _ rfl
theorem nmC_ky (kB : List UInt8) (sz : Int) (L : List (Nat × Nat)) : nmOkC L (AV.agg (kB.map .u8 ++ [.i64 sz])).names = true := by rw [names_ky]; rfl
theorem blkL_16 (bx ks : List UInt8) (r : Nat) (b : List UInt8) : (blkL bx ks r b).length = 16 := length_blkN ..
theorem bakL_16 (bx ks : List UInt8) (r : Nat) (b : List UInt8) : (bakL bx ks r b).length = 16 := length_rgL _ _
theorem beq_rfl' (l : List UInt8) : AV.bool (l == l) = .bool true := congrArg AV.bool (beq_self_eq_true l)
theorem xo_congr (K K2 : List UInt8 → List UInt8) (h : ∀ b, K b = K2 b) (c s : List UInt8) : xoL K c s = xoL K2 c s := by
  rw [show K = K2 from funext h]
theorem xor_padK (n : Nat) (key c s : List UInt8) (hkey : key.length = 4 * n) : xoL (blkL bxT (padL (exL bxT n key) 240) (n + 6)) c s = xoL (blkL bxT (exL bxT n key) (n + 6)) c s :=
  xo_congr _ _ (fun b => blk_padK n key b hkey) c s
set_option maxRecDepth 100000 in
theorem aesBlocks_ev (kB : List UInt8) (sz : Int) (b : List UInt8) (hB : kB.length = 32) (hl : b.length = 16) : Meets Tryd.prog 3 [.agg (kB.map .u8 ++ [.i64 sz]), .aggB b] [] (.bool true) [] := by
 have hn := keyM_ok sz
 have hn9 := nine hn
 have hkey := length_keyT kB sz hB
 have hpad := length_pad (keyM sz) (keyT kB sz) hkey hn9
 refine meets_of_ev (nt := 33) Tryd.func3 rfl rfl (Nat.le_of_ble_eq_true rfl) ?_
 refine .seq ?_
 refine .region ?_
 refine .a (op_boxRow rfl rfl) trivial rfl ?_
 refine .a (op_boxRow rfl rfl) trivial rfl ?_
 refine .q (op_assign rfl) trivial rfl ?_
 refine .nil ?_
 show Ev _ _ _ _ _
 refine .seq ?_
 refine .seq ?_
 refine .region ?_
 refine .q (op_call (U := []) [] [] (awakeA_ev) Tryd.func8 (by kernel_rfl) rfl rfl rfl (trivial) (trivial) (trivial) (trivial) rfl) trivial rfl ?_
 refine .q (op_notB rfl) trivial rfl ?_
 refine .nil ?_
 show Ev _ _ _ _ _
 refine .cond_false rfl (rfl) ?_
 refine .skip ?_
 show Ev _ _ _ _ _
 refine .seq ?_
 refine .region ?_
 refine .q (op_loadRow Tryd.underlying24 rfl (by kernel_rfl) rfl rfl rfl (by rw [AV.len, List.length_append, List.length_map, hB]) (whole_ky kB sz)) trivial rfl ?_
 refine .q (op_call (U := []) [] [] (text_ev kB sz hB) Tryd.func10 (by kernel_rfl) rfl rfl rfl (⟨⟨_, rfl, ren_ky _ _ _, nmC_ky _ _ _⟩, trivial⟩) (trivial) (trivial) (trivial) rfl) trivial rfl ?_
 refine .a (op_call (U := [(1016, some ⟨cphA (keyM sz) (keyT kB sz), 50, true⟩)]) [] [(1016, 1000)] (new_ev (keyM sz) (keyT kB sz) hn hkey) Tryd.func9 (by kernel_rfl) rfl rfl rfl (⟨⟨_, rfl, rfl, rfl⟩, trivial⟩) (trivial) (⟨⟨1000, _, rfl, congrArg (fun c => (⟨c, _, _⟩ : ABlk)) (ren_ca _).symm, rfl, nmF_ca _ _, .inl rfl⟩, trivial⟩) (trivial) rfl) trivial rfl ?_
 refine .q (op_move rfl) trivial rfl ?_
 refine .q (op_extract rfl rfl) trivial rfl ?_
 refine .q (op_extract rfl rfl) trivial rfl ?_
 refine .q (op_assign rfl) trivial rfl ?_
 refine .q (op_assign rfl) trivial rfl ?_
 refine .nil ?_
 show Ev _ _ _ _ _
 refine .seq ?_
 refine .seq ?_
 refine .region ?_
 refine .q (op_move rfl) trivial rfl ?_
 refine .q (op_eqPtrNil Tryd.underlying27 rfl rfl rfl) trivial rfl ?_
 refine .q (op_move rfl) trivial rfl ?_
 refine .know (b' := false) (rfl) ?_
 refine .q (op_move rfl) ⟨_, rfl, rfl⟩ rfl ?_
 refine .q (op_eqNilNil Tryd.underlying29 rfl rfl) ⟨_, rfl, rfl⟩ rfl ?_
 refine .q (op_pick_false rfl rfl rfl) trivial rfl ?_
 refine .nil ?_
 show Ev _ _ _ _ _
 refine .cond_false rfl (rfl) ?_
 refine .skip ?_
 show Ev _ _ _ _ _
 refine .seq ?_
 refine .region ?_
 refine .q (op_move rfl) trivial rfl ?_
 refine .q (op_loadRow Tryd.underlying25 rfl sz25 rfl rfl rfl (hl)) trivial rfl ?_
 refine .q (op_call (U := []) [(500, 1016)] [] (block_ev bxT (padL (exL bxT (keyM sz) (keyT kB sz)) 240) ((keyM sz) + 6) 50 length_bxT hpad (by omega) b hl) Tryd.func11 (by kernel_rfl) rfl rfl rfl (⟨⟨_, rfl, rfl, rfl⟩, ⟨_, rfl, rfl, rfl⟩, trivial⟩) (⟨⟨_, _, rfl, rfl, ren_ca _, rfl, (fun h => by cases h), nmC_ca _⟩, trivial⟩) (trivial) (⟨(fun h => by cases h), trivial⟩) rfl) trivial rfl ?_
 refine .as (.aggB ((blkL bxT (exL bxT (keyM sz) (keyT kB sz)) ((keyM sz) + 6)) b)) (congrArg AV.aggB (blk_padK _ _ b hkey)) ?_
 refine .a (op_allocRow zero25 rel_zero25 rfl) trivial rfl ?_
 refine .w (op_storeRow sz25 rfl rfl rfl rfl rfl (by first | exact blkL_16 .. | (show List.length _ = 16; first | exact blkL_16 .. | exact hl | rfl)) (by first | exact blkL_16 .. | (show List.length _ = 16; first | exact blkL_16 .. | exact hl | rfl))) trivial rfl ?_
 refine .nil ?_
 show Ev _ _ _ _ _
 refine .seq ?_
 refine .drawn [[], [0], [], [2], [], [4], [2, 3, 4, 5], [0, 1, 2, 3, 4, 5, 6], [0, 1, 2, 3, 4, 5, 6, 7]] [0, 1, 2, 3, 4, 5, 6] [] (by kernel_rfl) (by kernel_rfl) rfl ?_
 show DK _ [0, 1, 2, 3, 4, 5, 6, 7, 8] _ _ _
 refine .q rfl (op_slice_arr (l := 0) (h := 16) Tryd.underlying25 inf5.sz rfl rfl (by show _ ≤ List.length _; rw [blkL_16]; decide) (by decide) rfl rfl (by decide) (by decide)) trivial ?_
 refine .q rfl (op_bytes_str Tryd.underlying34 Tryd.underlying5 Tryd.underlying9 rfl rfl rfl (by show 0 + 16 ≤ List.length _; rw [blkL_16]; decide)) trivial ?_
 refine .as (.str ((blkL bxT (exL bxT (keyM sz) (keyT kB sz)) ((keyM sz) + 6)) b)) (by rw [List.drop_zero, Nat.sub_zero, List.take_of_length_le (by rw [blkL_16]; decide)]) ?_
 refine .q rfl (op_loadRow Tryd.underlying24 rfl (by kernel_rfl) rfl rfl rfl (by rw [AV.len, List.length_append, List.length_map, hB]) (whole_ky kB sz)) trivial ?_
 refine .q rfl (op_call (U := []) [] [] (text_ev kB sz hB) Tryd.func10 (by kernel_rfl) rfl rfl rfl (⟨⟨_, rfl, ren_ky _ _ _, nmC_ky _ _ _⟩, trivial⟩) (trivial) (trivial) (trivial) rfl) trivial ?_
 refine .q rfl (op_slice_arr (l := 0) (h := 16) Tryd.underlying25 inf5.sz rfl rfl (by show _ ≤ List.length _; rw [hl]; decide) (by decide) rfl rfl (by decide) (by decide)) trivial ?_
 refine .q rfl (op_bytes_str Tryd.underlying34 Tryd.underlying5 Tryd.underlying9 rfl rfl rfl (by show 0 + 16 ≤ List.length _; rw [hl]; decide)) trivial ?_
 refine .as (.str b) (by rw [List.drop_zero, Nat.sub_zero, List.take_of_length_le (by rw [hl]; decide)]) ?_
 refine .q rfl (op_call (U := []) [] [] (rblock_ev _ b _ hkey hn9 hl) Tryd.func12 (by kernel_rfl) rfl rfl rfl (⟨⟨_, rfl, rfl, rfl⟩, ⟨_, rfl, rfl, rfl⟩, trivial⟩) (trivial) (trivial) (trivial) rfl) trivial ?_
 refine .q rfl (op_eqS rfl rfl rfl) trivial ?_
 refine .as (.bool true) (beq_rfl' _) ?_
 refine .q rfl (op_assign rfl) trivial ?_
 refine .nil ?_
 show Ev _ _ _ _ _
 refine .ret ?_
 show RetOk _ _ _ _ _ _ _
 exact ret1v rfl (.inl rfl) rfl rfl trivial
set_option maxRecDepth 100000 in
theorem aesBack_ev (kB : List UInt8) (sz : Int) (b : List UInt8) (hB : kB.length = 32) (hl : b.length = 16) : Meets Tryd.prog 4 [.agg (kB.map .u8 ++ [.i64 sz]), .aggB b] [] (.bool true) [] := by
 have hn := keyM_ok sz
 have hn9 := nine hn
 have hkey := length_keyT kB sz hB
 have hpad := length_pad (keyM sz) (keyT kB sz) hkey hn9
 refine meets_of_ev (nt := 49) Tryd.func4 rfl rfl (Nat.le_of_ble_eq_true rfl) ?_
 refine .seq ?_
 refine .region ?_
 refine .a (op_boxRow rfl rfl) trivial rfl ?_
 refine .a (op_boxRow rfl rfl) trivial rfl ?_
 refine .q (op_assign rfl) trivial rfl ?_
 refine .nil ?_
 show Ev _ _ _ _ _
 refine .seq ?_
 refine .seq ?_
 refine .region ?_
 refine .q (op_call (U := []) [] [] (awakeA_ev) Tryd.func8 (by kernel_rfl) rfl rfl rfl (trivial) (trivial) (trivial) (trivial) rfl) trivial rfl ?_
 refine .q (op_notB rfl) trivial rfl ?_
 refine .nil ?_
 show Ev _ _ _ _ _
 refine .cond_false rfl (rfl) ?_
 refine .skip ?_
 show Ev _ _ _ _ _
 refine .seq ?_
 refine .region ?_
 refine .q (op_loadRow Tryd.underlying24 rfl (by kernel_rfl) rfl rfl rfl (by rw [AV.len, List.length_append, List.length_map, hB]) (whole_ky kB sz)) trivial rfl ?_
 refine .q (op_call (U := []) [] [] (text_ev kB sz hB) Tryd.func10 (by kernel_rfl) rfl rfl rfl (⟨⟨_, rfl, ren_ky _ _ _, nmC_ky _ _ _⟩, trivial⟩) (trivial) (trivial) (trivial) rfl) trivial rfl ?_
 refine .a (op_call (U := [(1016, some ⟨cphA (keyM sz) (keyT kB sz), 50, true⟩)]) [] [(1016, 1000)] (new_ev (keyM sz) (keyT kB sz) hn hkey) Tryd.func9 (by kernel_rfl) rfl rfl rfl (⟨⟨_, rfl, rfl, rfl⟩, trivial⟩) (trivial) (⟨⟨1000, _, rfl, congrArg (fun c => (⟨c, _, _⟩ : ABlk)) (ren_ca _).symm, rfl, nmF_ca _ _, .inl rfl⟩, trivial⟩) (trivial) rfl) trivial rfl ?_
 refine .q (op_move rfl) trivial rfl ?_
 refine .q (op_extract rfl rfl) trivial rfl ?_
 refine .q (op_extract rfl rfl) trivial rfl ?_
 refine .q (op_assign rfl) trivial rfl ?_
 refine .q (op_assign rfl) trivial rfl ?_
 refine .nil ?_
 show Ev _ _ _ _ _
 refine .seq ?_
 refine .seq ?_
 refine .region ?_
 refine .q (op_move rfl) trivial rfl ?_
 refine .q (op_eqPtrNil Tryd.underlying27 rfl rfl rfl) trivial rfl ?_
 refine .q (op_move rfl) trivial rfl ?_
 refine .know (b' := false) (rfl) ?_
 refine .q (op_move rfl) ⟨_, rfl, rfl⟩ rfl ?_
 refine .q (op_eqNilNil Tryd.underlying29 rfl rfl) ⟨_, rfl, rfl⟩ rfl ?_
 refine .q (op_pick_false rfl rfl rfl) trivial rfl ?_
 refine .nil ?_
 show Ev _ _ _ _ _
 refine .cond_false rfl (rfl) ?_
 refine .skip ?_
 show Ev _ _ _ _ _
 refine .seq ?_
 refine .region ?_
 refine .q (op_move rfl) trivial rfl ?_
 refine .q (op_loadRow Tryd.underlying25 rfl sz25 rfl rfl rfl (hl)) trivial rfl ?_
 refine .q (op_call (U := []) [(500, 1016)] [] (back_ev bxT (padL (exL bxT (keyM sz) (keyT kB sz)) 240) ((keyM sz) + 6) 50 length_bxT hpad (by omega) b hl) Tryd.func13 (by kernel_rfl) rfl rfl rfl (⟨⟨_, rfl, rfl, rfl⟩, ⟨_, rfl, rfl, rfl⟩, trivial⟩) (⟨⟨_, _, rfl, rfl, ren_ca _, rfl, (fun h => by cases h), nmC_ca _⟩, trivial⟩) (trivial) (⟨(fun h => by cases h), trivial⟩) rfl) trivial rfl ?_
 refine .a (op_allocRow zero25 rel_zero25 rfl) trivial rfl ?_
 refine .w (op_storeRow sz25 rfl rfl rfl rfl rfl (by first | exact bakL_16 .. | (show List.length _ = 16; first | exact bakL_16 .. | exact hl | rfl)) (by first | exact bakL_16 .. | (show List.length _ = 16; first | exact bakL_16 .. | exact hl | rfl))) trivial rfl ?_
 refine .nil ?_
 show Ev _ _ _ _ _
 refine .seq ?_
 refine .drawn [[], [], [], [1, 2], [0, 1, 2, 3], [], [0, 1, 2, 3, 4, 5], [0, 1, 2, 3, 4, 5, 6], [0, 1, 2, 3, 4, 5, 6, 7], [0, 1, 2, 3, 4, 5, 6, 7], [0, 1, 2, 3, 4, 5, 6, 7, 8, 9], [0, 1, 2, 3, 4, 5, 6, 7], [0, 1, 2, 3, 4, 5, 6, 7, 8, 9, 10, 11], [0, 1, 2, 3, 4, 5, 6, 7, 8, 9, 10, 11, 12], [0, 1, 2, 3, 4, 5, 6, 7, 8, 9, 10, 11, 12, 13], [0, 1, 2, 3, 4, 5, 6, 7, 8, 9, 10, 11, 12, 13, 14], [0, 1, 2, 3, 4, 5, 6, 7, 8, 9, 10, 11, 12, 13, 14, 15], [0, 1, 2, 3, 4, 5, 6, 7, 8, 9, 10, 11, 12, 13, 14], [0, 1, 2, 3, 4, 5, 6, 7, 8, 9, 10, 11, 12, 13, 14, 17], [0, 1, 2, 3, 4, 5, 6, 7, 8, 9, 10, 11, 12, 13, 14, 15, 16, 17, 18], [0, 1, 2, 3, 4, 5, 6, 7, 8, 9, 10, 11, 12, 13, 14], [0, 1, 2, 3, 4, 5, 6, 7, 8, 9, 10, 11, 12, 13, 14, 20], [0, 1, 2, 3, 4, 5, 6, 7, 8, 9, 10, 11, 12, 13, 14, 15, 16, 17, 18, 19, 20, 21], [0, 1, 2, 3, 4, 5, 6, 7, 8, 9, 10, 11, 12, 13, 14, 15, 16, 17, 18, 19, 20, 21, 22], [0, 1, 2, 3, 4, 5, 6, 7, 8, 9, 10, 11, 12, 13, 14, 15, 16, 17, 18, 19, 20, 21, 22, 23]] [2, 3, 4, 5, 9, 10, 11, 15, 16, 17, 18, 19, 20, 21] [] (by kernel_rfl) (by kernel_rfl) rfl ?_
 show DK _ [0, 1, 2, 3, 4, 5, 6, 7, 8, 9, 10, 11, 12, 13, 14, 15, 16, 17, 18, 19, 20, 21, 22, 23, 24] _ _ _
 refine .q rfl (op_move rfl) trivial ?_
 refine .q rfl (op_move rfl) trivial ?_
 refine .q rfl (op_loadRow Tryd.underlying25 rfl sz25 rfl rfl rfl (hl)) trivial ?_
 refine .q rfl (op_call (U := []) [(500, 1016)] [] (block_ev bxT (padL (exL bxT (keyM sz) (keyT kB sz)) 240) ((keyM sz) + 6) 50 length_bxT hpad (by omega) b hl) Tryd.func11 (by kernel_rfl) rfl rfl rfl (⟨⟨_, rfl, rfl, rfl⟩, ⟨_, rfl, rfl, rfl⟩, trivial⟩) (⟨⟨_, _, rfl, rfl, ren_ca _, rfl, (fun h => by cases h), nmC_ca _⟩, trivial⟩) (trivial) (⟨(fun h => by cases h), trivial⟩) rfl) trivial ?_
 refine .q rfl (op_call (U := []) [(500, 1016)] [] (back_ev bxT (padL (exL bxT (keyM sz) (keyT kB sz)) 240) ((keyM sz) + 6) 50 length_bxT hpad (by omega) _ (blkL_16 ..)) Tryd.func13 (by kernel_rfl) rfl rfl rfl (⟨⟨_, rfl, rfl, rfl⟩, ⟨_, rfl, rfl, rfl⟩, trivial⟩) (⟨⟨_, _, rfl, rfl, ren_ca _, rfl, (fun h => by cases h), nmC_ca _⟩, trivial⟩) (trivial) (⟨(fun h => by cases h), trivial⟩) rfl) trivial ?_
 refine .as (.aggB b) (congrArg AV.aggB (bak_blk boxT _ _ b hl)) ?_
 refine .q rfl (op_loadRow Tryd.underlying25 rfl sz25 rfl rfl rfl (hl)) trivial ?_
 refine .q rfl (op_eqRow8 (n := 16) (by kernel_rfl) Tryd.underlying25 Tryd.underlying5 inf5.sz rfl rfl (hl) (hl)) trivial ?_
 refine .as (.bool true) (beq_rfl' _) ?_
 refine .q rfl (op_move rfl) trivial ?_
 refine .know (b' := true) (rfl) ?_
 refine .q rfl (op_move rfl) ⟨_, rfl, rfl⟩ ?_
 refine .q rfl (op_loadRow Tryd.underlying25 rfl sz25 rfl rfl rfl (by first | exact bakL_16 .. | (show List.length _ = 16; first | exact bakL_16 .. | exact hl | rfl))) ⟨_, rfl, rfl⟩ ?_
 refine .q rfl (op_call (U := []) [(500, 1016)] [] (block_ev bxT (padL (exL bxT (keyM sz) (keyT kB sz)) 240) ((keyM sz) + 6) 50 length_bxT hpad (by omega) _ (bakL_16 ..)) Tryd.func11 (by kernel_rfl) rfl rfl rfl (⟨⟨_, rfl, rfl, rfl⟩, ⟨_, rfl, rfl, rfl⟩, trivial⟩) (⟨⟨_, _, rfl, rfl, ren_ca _, rfl, (fun h => by cases h), nmC_ca _⟩, trivial⟩) (trivial) (⟨(fun h => by cases h), trivial⟩) rfl) ⟨_, rfl, rfl⟩ ?_
 refine .as (.aggB b) (congrArg AV.aggB (blk_bak boxT _ _ b hl)) ?_
 refine .q rfl (op_loadRow Tryd.underlying25 rfl sz25 rfl rfl rfl (hl)) ⟨_, rfl, rfl⟩ ?_
 refine .q rfl (op_eqRow8 (n := 16) (by kernel_rfl) Tryd.underlying25 Tryd.underlying5 inf5.sz rfl rfl (hl) (hl)) ⟨_, rfl, rfl⟩ ?_
 refine .as (.bool true) (beq_rfl' _) ?_
 refine .q rfl (op_pick_true rfl rfl rfl) trivial ?_
 refine .q rfl (op_move rfl) trivial ?_
 refine .know (b' := true) (rfl) ?_
 refine .q rfl (op_loadRow Tryd.underlying24 rfl (by kernel_rfl) rfl rfl rfl (by rw [AV.len, List.length_append, List.length_map, hB]) (whole_ky kB sz)) ⟨_, rfl, rfl⟩ ?_
 refine .q rfl (op_call (U := []) [] [] (text_ev kB sz hB) Tryd.func10 (by kernel_rfl) rfl rfl rfl (⟨⟨_, rfl, ren_ky _ _ _, nmC_ky _ _ _⟩, trivial⟩) (trivial) (trivial) (trivial) rfl) ⟨_, rfl, rfl⟩ ?_
 refine .q rfl (op_slice_arr (l := 0) (h := 16) Tryd.underlying25 inf5.sz rfl rfl (by show _ ≤ List.length _; rw [bakL_16]; decide) (by decide) rfl rfl (by decide) (by decide)) ⟨_, rfl, rfl⟩ ?_
 refine .q rfl (op_bytes_str Tryd.underlying34 Tryd.underlying5 Tryd.underlying9 rfl rfl rfl (by show 0 + 16 ≤ List.length _; rw [bakL_16]; decide)) ⟨_, rfl, rfl⟩ ?_
 refine .as (.str (bakL bxT (padL (exL bxT (keyM sz) (keyT kB sz)) 240) ((keyM sz) + 6) b)) (by rw [List.drop_zero, Nat.sub_zero, List.take_of_length_le (by rw [bakL_16]; decide)]) ?_
 refine .q rfl (op_call (U := []) [] [] (rblock_ev _ _ _ hkey hn9 (bakL_16 ..)) Tryd.func12 (by kernel_rfl) rfl rfl rfl (⟨⟨_, rfl, rfl, rfl⟩, ⟨_, rfl, rfl, rfl⟩, trivial⟩) (trivial) (trivial) (trivial) rfl) ⟨_, rfl, rfl⟩ ?_
 refine .as (.str b) (congrArg AV.str (by rw [← blk_padK _ _ _ hkey]; exact blk_bak boxT _ _ b hl)) ?_
 refine .q rfl (op_slice_arr (l := 0) (h := 16) Tryd.underlying25 inf5.sz rfl rfl (by show _ ≤ List.length _; rw [hl]; decide) (by decide) rfl rfl (by decide) (by decide)) ⟨_, rfl, rfl⟩ ?_
 refine .q rfl (op_bytes_str Tryd.underlying34 Tryd.underlying5 Tryd.underlying9 rfl rfl rfl (by show 0 + 16 ≤ List.length _; rw [hl]; decide)) ⟨_, rfl, rfl⟩ ?_
 refine .as (.str b) (by rw [List.drop_zero, Nat.sub_zero, List.take_of_length_le (by rw [hl]; decide)]) ?_
 refine .q rfl (op_eqS rfl rfl rfl) ⟨_, rfl, rfl⟩ ?_
 refine .as (.bool true) (beq_rfl' _) ?_
 refine .q rfl (op_pick_true rfl rfl rfl) trivial ?_
 refine .q rfl (op_assign rfl) trivial ?_
 refine .nil ?_
 show Ev _ _ _ _ _
 refine .ret ?_
 show RetOk _ _ _ _ _ _ _
 exact ret1v rfl (.inl rfl) rfl rfl trivial
set_option maxRecDepth 100000 in
theorem aesXors_ev (kB : List UInt8) (sz : Int) (c s0 : List UInt8) (hB : kB.length = 32) (hl : c.length = 16) (hs0 : s0.length ≤ maxLen) : Meets Tryd.prog 5 [.agg (kB.map .u8 ++ [.i64 sz]), .aggB c, .str s0] [] (.bool true) [] := by
 have hn := keyM_ok sz
 have hn9 := nine hn
 have hkey := length_keyT kB sz hB
 have hpad := length_pad (keyM sz) (keyT kB sz) hkey hn9
 have hs : (s0.take 80).length ≤ 100000 := by rw [List.length_take]; omega
 refine meets_of_ev (nt := 46) Tryd.func5 rfl rfl (Nat.le_of_ble_eq_true rfl) ?_
 refine .seq ?_
 refine .region ?_
 refine .a (op_boxRow rfl rfl) trivial rfl ?_
 refine .a (op_boxRow rfl rfl) trivial rfl ?_
 refine .q (op_assign rfl) trivial rfl ?_
 refine .nil ?_
 show Ev _ _ _ _ _
 refine .seq ?_
 refine .seq ?_
 refine .region ?_
 refine .q (op_call (U := []) [] [] (awakeA_ev) Tryd.func8 (by kernel_rfl) rfl rfl rfl (trivial) (trivial) (trivial) (trivial) rfl) trivial rfl ?_
 refine .q (op_notB rfl) trivial rfl ?_
 refine .nil ?_
 show Ev _ _ _ _ _
 refine .cond_false rfl (rfl) ?_
 refine .skip ?_
 show Ev _ _ _ _ _
 refine .seq ?_
 refine .region ?_
 refine .q (op_move rfl) trivial rfl ?_
 refine .q (op_call (U := []) [] [] (cut_ev s0 80 hs0 (by decide)) Tryd.func14 (by kernel_rfl) rfl rfl rfl (⟨⟨_, rfl, rfl, rfl⟩, ⟨_, rfl, rfl, rfl⟩, trivial⟩) (trivial) (trivial) (trivial) rfl) trivial rfl ?_
 refine .q (op_assign rfl) trivial rfl ?_
 refine .nil ?_
 show Ev _ _ _ _ _
 refine .seq ?_
 refine .region ?_
 refine .q (op_loadRow Tryd.underlying24 rfl (by kernel_rfl) rfl rfl rfl (by rw [AV.len, List.length_append, List.length_map, hB]) (whole_ky kB sz)) trivial rfl ?_
 refine .q (op_call (U := []) [] [] (text_ev kB sz hB) Tryd.func10 (by kernel_rfl) rfl rfl rfl (⟨⟨_, rfl, ren_ky _ _ _, nmC_ky _ _ _⟩, trivial⟩) (trivial) (trivial) (trivial) rfl) trivial rfl ?_
 refine .a (op_call (U := [(1016, some ⟨cphA (keyM sz) (keyT kB sz), 50, true⟩)]) [] [(1016, 1000)] (new_ev (keyM sz) (keyT kB sz) hn hkey) Tryd.func9 (by kernel_rfl) rfl rfl rfl (⟨⟨_, rfl, rfl, rfl⟩, trivial⟩) (trivial) (⟨⟨1000, _, rfl, congrArg (fun c => (⟨c, _, _⟩ : ABlk)) (ren_ca _).symm, rfl, nmF_ca _ _, .inl rfl⟩, trivial⟩) (trivial) rfl) trivial rfl ?_
 refine .q (op_move rfl) trivial rfl ?_
 refine .q (op_extract rfl rfl) trivial rfl ?_
 refine .q (op_extract rfl rfl) trivial rfl ?_
 refine .q (op_assign rfl) trivial rfl ?_
 refine .q (op_assign rfl) trivial rfl ?_
 refine .nil ?_
 show Ev _ _ _ _ _
 refine .seq ?_
 refine .seq ?_
 refine .region ?_
 refine .q (op_move rfl) trivial rfl ?_
 refine .q (op_eqPtrNil Tryd.underlying27 rfl rfl rfl) trivial rfl ?_
 refine .q (op_move rfl) trivial rfl ?_
 refine .know (b' := false) (rfl) ?_
 refine .q (op_move rfl) ⟨_, rfl, rfl⟩ rfl ?_
 refine .q (op_eqNilNil Tryd.underlying29 rfl rfl) ⟨_, rfl, rfl⟩ rfl ?_
 refine .q (op_pick_false rfl rfl rfl) trivial rfl ?_
 refine .nil ?_
 show Ev _ _ _ _ _
 refine .cond_false rfl (rfl) ?_
 refine .skip ?_
 show Ev _ _ _ _ _
 refine .seq ?_
 refine .region ?_
 refine .q (op_move rfl) trivial rfl ?_
 refine .q (op_loadRow Tryd.underlying25 rfl sz25 rfl rfl rfl (hl)) trivial rfl ?_
 refine .q (op_move rfl) trivial rfl ?_
 refine .q (op_call (U := []) [(500, 1016)] [] (xor_ev bxT (padL (exL bxT (keyM sz) (keyT kB sz)) 240) ((keyM sz) + 6) 50 length_bxT hpad (by omega) c (s0.take 80) hl hs) Tryd.func15 (by kernel_rfl) rfl rfl rfl (⟨⟨_, rfl, rfl, rfl⟩, ⟨_, rfl, rfl, rfl⟩, ⟨_, rfl, rfl, rfl⟩, trivial⟩) (⟨⟨_, _, rfl, rfl, ren_ca _, rfl, (fun h => by cases h), nmC_ca _⟩, trivial⟩) (trivial) (⟨(fun h => by cases h), trivial⟩) rfl) trivial rfl ?_
 refine .as (.str (xoL (blkL bxT (exL bxT (keyM sz) (keyT kB sz)) ((keyM sz) + 6)) c (s0.take 80))) (congrArg AV.str (xor_padK _ _ c _ hkey)) ?_
 refine .q (op_assign rfl) trivial rfl ?_
 refine .nil ?_
 show Ev _ _ _ _ _
 refine .seq ?_
 refine .drawn [[], [], [1], [], [3], [], [1, 2, 3, 4, 5], [0, 1, 2, 3, 4, 5, 6], [0, 1, 2, 3, 4, 5, 6, 7], [0, 1, 2, 3, 4, 5, 6, 7, 8], [0, 1, 2, 3, 4, 5, 6, 7, 8], [0, 1, 2, 3, 4, 5, 6, 7, 8], [0, 1, 2, 3, 4, 5, 6, 7, 8, 9, 10, 11], [0, 1, 2, 3, 4, 5, 6, 7, 8], [0, 1, 2, 3, 4, 5, 6, 7, 8, 9, 10, 11, 12, 13], [0, 1, 2, 3, 4, 5, 6, 7, 8, 9, 10, 11, 12, 13, 14], [0, 1, 2, 3, 4, 5, 6, 7, 8, 9, 10, 11, 12, 13, 14, 15]] [1, 2, 3, 4, 6, 10, 12] [] (by kernel_rfl) (by kernel_rfl) rfl ?_
 show DK _ [0, 1, 2, 3, 4, 5, 6, 7, 8, 9, 10, 11, 12, 13, 14, 15, 16] _ _ _
 refine .q rfl (op_move rfl) trivial ?_
 refine .q rfl (op_loadRow Tryd.underlying24 rfl (by kernel_rfl) rfl rfl rfl (by rw [AV.len, List.length_append, List.length_map, hB]) (whole_ky kB sz)) trivial ?_
 refine .q rfl (op_call (U := []) [] [] (text_ev kB sz hB) Tryd.func10 (by kernel_rfl) rfl rfl rfl (⟨⟨_, rfl, ren_ky _ _ _, nmC_ky _ _ _⟩, trivial⟩) (trivial) (trivial) (trivial) rfl) trivial ?_
 refine .q rfl (op_slice_arr (l := 0) (h := 16) Tryd.underlying25 inf5.sz rfl rfl (by show _ ≤ List.length _; rw [hl]; decide) (by decide) rfl rfl (by decide) (by decide)) trivial ?_
 refine .q rfl (op_bytes_str Tryd.underlying34 Tryd.underlying5 Tryd.underlying9 rfl rfl rfl (by show 0 + 16 ≤ List.length _; rw [hl]; decide)) trivial ?_
 refine .as (.str c) (by rw [List.drop_zero, Nat.sub_zero, List.take_of_length_le (by rw [hl]; decide)]) ?_
 refine .q rfl (op_move rfl) trivial ?_
 refine .q rfl (op_call (U := []) [] [] (rxor_ev _ c _ _ hkey hn9 hl hs) Tryd.func16 (by kernel_rfl) rfl rfl rfl (⟨⟨_, rfl, rfl, rfl⟩, ⟨_, rfl, rfl, rfl⟩, ⟨_, rfl, rfl, rfl⟩, trivial⟩) (trivial) (trivial) (trivial) rfl) trivial ?_
 refine .q rfl (op_eqS rfl rfl rfl) trivial ?_
 refine .as (.bool true) (beq_rfl' _) ?_
 refine .q rfl (op_move rfl) trivial ?_
 refine .know (b' := true) (rfl) ?_
 refine .q rfl (op_move rfl) ⟨_, rfl, rfl⟩ ?_
 refine .q rfl (op_loadRow Tryd.underlying25 rfl sz25 rfl rfl rfl (hl)) ⟨_, rfl, rfl⟩ ?_
 refine .q rfl (op_move rfl) ⟨_, rfl, rfl⟩ ?_
 refine .q rfl (op_call (U := []) [(500, 1016)] [] (xor_ev bxT (padL (exL bxT (keyM sz) (keyT kB sz)) 240) ((keyM sz) + 6) 50 length_bxT hpad (by omega) c _ hl (by rw [length_xoL]; exact hs)) Tryd.func15 (by kernel_rfl) rfl rfl rfl (⟨⟨_, rfl, rfl, rfl⟩, ⟨_, rfl, rfl, rfl⟩, ⟨_, rfl, rfl, rfl⟩, trivial⟩) (⟨⟨_, _, rfl, rfl, ren_ca _, rfl, (fun h => by cases h), nmC_ca _⟩, trivial⟩) (trivial) (⟨(fun h => by cases h), trivial⟩) rfl) ⟨_, rfl, rfl⟩ ?_
 refine .as (.str (s0.take 80)) (congrArg AV.str (by rw [xor_padK _ _ c _ hkey]; exact xo_xo _ c _)) ?_
 refine .q rfl (op_move rfl) ⟨_, rfl, rfl⟩ ?_
 refine .q rfl (op_eqS rfl rfl rfl) ⟨_, rfl, rfl⟩ ?_
 refine .as (.bool true) (beq_rfl' _) ?_
 refine .q rfl (op_pick_true rfl rfl rfl) trivial ?_
 refine .q rfl (op_assign rfl) trivial ?_
 refine .nil ?_
 show Ev _ _ _ _ _
 refine .ret ?_
 show RetOk _ _ _ _ _ _ _
 exact ret1v rfl (.inl rfl) rfl rfl trivial
theorem nm_ca {n : Nat} {key : List UInt8} (L : List (Nat × Nat)) : nmOk L (cphA n key).names = true := by rw [names_ca]; rfl
set_option maxRecDepth 100000 in
theorem aesParts_ev (kB : List UInt8) (sz : Int) (c s0 : List UInt8) (hB : kB.length = 32) (hl : c.length = 16) (hs0 : s0.length ≤ maxLen) : Meets Tryd.prog 7 [.agg (kB.map .u8 ++ [.i64 sz]), .aggB c, .str s0] [] (.bool true) [] := by
 have hn := keyM_ok sz
 have hn9 := nine hn
 have hkey := length_keyT kB sz hB
 have hpad := length_pad (keyM sz) (keyT kB sz) hkey hn9
 have hs : (s0.take 200).length ≤ 100000 := by rw [List.length_take]; omega
 refine meets_of_ev (nt := 63) Tryd.func7 rfl rfl (Nat.le_of_ble_eq_true rfl) ?_
 refine .seq ?_
 refine .region ?_
 refine .a (op_boxRow rfl rfl) trivial rfl ?_
 refine .a (op_boxRow rfl rfl) trivial rfl ?_
 refine .q (op_assign rfl) trivial rfl ?_
 refine .nil ?_
 show Ev _ _ _ _ _
 refine .seq ?_
 refine .seq ?_
 refine .region ?_
 refine .q (op_call (U := []) [] [] (awakeA_ev) Tryd.func8 (by kernel_rfl) rfl rfl rfl (trivial) (trivial) (trivial) (trivial) rfl) trivial rfl ?_
 refine .q (op_notB rfl) trivial rfl ?_
 refine .nil ?_
 show Ev _ _ _ _ _
 refine .cond_false rfl (rfl) ?_
 refine .skip ?_
 show Ev _ _ _ _ _
 refine .seq ?_
 refine .region ?_
 refine .q (op_move rfl) trivial rfl ?_
 refine .q (op_call (U := []) [] [] (cut_ev s0 200 hs0 (by decide)) Tryd.func14 (by kernel_rfl) rfl rfl rfl (⟨⟨_, rfl, rfl, rfl⟩, ⟨_, rfl, rfl, rfl⟩, trivial⟩) (trivial) (trivial) (trivial) rfl) trivial rfl ?_
 refine .q (op_assign rfl) trivial rfl ?_
 refine .nil ?_
 show Ev _ _ _ _ _
 refine .seq ?_
 refine .region ?_
 refine .q (op_loadRow Tryd.underlying24 rfl (by kernel_rfl) rfl rfl rfl (by rw [AV.len, List.length_append, List.length_map, hB]) (whole_ky kB sz)) trivial rfl ?_
 refine .q (op_call (U := []) [] [] (text_ev kB sz hB) Tryd.func10 (by kernel_rfl) rfl rfl rfl (⟨⟨_, rfl, ren_ky _ _ _, nmC_ky _ _ _⟩, trivial⟩) (trivial) (trivial) (trivial) rfl) trivial rfl ?_
 refine .a (op_call (U := [(1016, some ⟨cphA (keyM sz) (keyT kB sz), 50, true⟩)]) [] [(1016, 1000)] (new_ev (keyM sz) (keyT kB sz) hn hkey) Tryd.func9 (by kernel_rfl) rfl rfl rfl (⟨⟨_, rfl, rfl, rfl⟩, trivial⟩) (trivial) (⟨⟨1000, _, rfl, congrArg (fun c => (⟨c, _, _⟩ : ABlk)) (ren_ca _).symm, rfl, nmF_ca _ _, .inl rfl⟩, trivial⟩) (trivial) rfl) trivial rfl ?_
 refine .q (op_move rfl) trivial rfl ?_
 refine .q (op_extract rfl rfl) trivial rfl ?_
 refine .q (op_extract rfl rfl) trivial rfl ?_
 refine .q (op_assign rfl) trivial rfl ?_
 refine .q (op_assign rfl) trivial rfl ?_
 refine .nil ?_
 show Ev _ _ _ _ _
 refine .seq ?_
 refine .seq ?_
 refine .region ?_
 refine .q (op_move rfl) trivial rfl ?_
 refine .q (op_eqPtrNil Tryd.underlying27 rfl rfl rfl) trivial rfl ?_
 refine .q (op_move rfl) trivial rfl ?_
 refine .know (b' := false) (rfl) ?_
 refine .q (op_move rfl) ⟨_, rfl, rfl⟩ rfl ?_
 refine .q (op_eqNilNil Tryd.underlying29 rfl rfl) ⟨_, rfl, rfl⟩ rfl ?_
 refine .q (op_pick_false rfl rfl rfl) trivial rfl ?_
 refine .nil ?_
 show Ev _ _ _ _ _
 refine .cond_false rfl (rfl) ?_
 refine .skip ?_
 show Ev _ _ _ _ _
 refine .seq ?_
 refine .region ?_
 refine .q (op_loadRow Tryd.underlying25 rfl sz25 rfl rfl rfl (hl)) trivial rfl ?_
 refine .a (op_allocRow zero25 rel_zero25 rfl) trivial rfl ?_
 refine .w (op_storeRow sz25 rfl rfl rfl rfl rfl (by first | exact hl | (show List.length _ = 16; first | exact hl | rfl)) (by first | exact hl | (show List.length _ = 16; first | exact hl | rfl))) trivial rfl ?_
 refine .nil ?_
 show Ev _ _ _ _ _
 refine .seq ?_
 refine .seq ?_
 refine .region ?_
 refine .q (op_assign rfl) trivial rfl ?_
 refine .nil ?_
 show Ev _ _ _ _ _
 refine .block ?_
 refine Ev.loop (ι := { p : Nat × List UInt8 // p.2.length = 16 ∧ p.1 ≤ 16 ∧ nxG p.1 p.2 = nxL c }) (fun q => ⟨[(2, .str (s0.take 200)), (4, .ptr 1008 0), (7, .ptr 1016 0), (9, .ptr 1024 0), (10, .i64 ((q.1.1 : Int) - 1))], [(1016, some ⟨cphA (keyM sz) (keyT kB sz), 50, true⟩), (1008, some ⟨.aggB c, 25, true⟩), (1024, some ⟨.aggB q.1.2, 25, true⟩)], 1032⟩) (fun q => q.1.1) ⟨(16, c), hl, Nat.le_refl _, rfl⟩ (StLe.mk [(1016, 1016), (1008, 1008), (1024, 1024)] rfl rfl ⟨⟨_, rfl, by rfl, rfl⟩, ⟨_, rfl, by rfl, rfl⟩, ⟨_, rfl, by rfl, rfl⟩, ⟨_, rfl, by rfl, rfl⟩, ⟨_, rfl, by (simp only [AV.ren]; rfl), rfl⟩, trivial⟩ ⟨⟨_, _, rfl, rfl, ren_ca _, rfl, id, nm_ca _⟩, ⟨_, _, rfl, rfl, rfl, rfl, id, rfl⟩, ⟨_, _, rfl, rfl, rfl, rfl, id, rfl⟩, trivial⟩) ?_
 rintro ⟨⟨k, m⟩, hm, hk, he⟩
 try dsimp only
 replace hm : m.length = 16 := hm
 replace hk : k ≤ 16 := hk
 replace he : nxG k m = nxL c := he
 refine .seq ?_
 refine .seq ?_
 refine .region ?_
 refine .q (op_move rfl) trivial rfl ?_
 refine .q (op_cmpI rfl rfl rfl) trivial rfl ?_
 refine .nil ?_
 show Ev _ _ _ _ _
 refine .cond rfl (fun hc30 => ?_) (fun hc30 => ?_)
 ·simp only [decide_eq_true_eq] at hc30
  refine .skip ?_
  show Ev _ _ _ _ _
  refine .seq ?_
  refine .block ?_
  refine .seq ?_
  refine .region ?_
  refine .q (op_move rfl) trivial rfl ?_
  refine .q (ap_idx_arr Tryd.underlying25 inf5.sz rfl rfl (i := k - 1) (by omega) (by omega)) trivial rfl ?_
  refine .q (op_load Tryd.underlying5 rfl rfl rfl rfl (by show _ < List.length _; rw [hm]; omega)) trivial rfl ?_
  refine .q (op_bin8 rfl rfl rfl) trivial rfl ?_
  refine .q (ap_idx_arr Tryd.underlying25 inf5.sz rfl rfl (i := k - 1) (by omega) (by omega)) trivial rfl ?_
  refine .w (op_store inf5.sz rfl rfl rfl rfl rfl (by show _ < List.length _; rw [hm]; omega)) trivial rfl ?_
  refine .nil ?_
  show Ev _ _ _ _ _
  refine .seq ?_
  refine .region ?_
  refine .q (op_move rfl) trivial rfl ?_
  refine .q (ap_idx_arr Tryd.underlying25 inf5.sz rfl rfl (i := k - 1) (by omega) (by omega)) trivial rfl ?_
  refine .q (op_load Tryd.underlying5 rfl rfl rfl rfl (by show _ < List.length _; rw [List.length_set, hm]; omega)) trivial rfl ?_
  refine .as (.u8 (m.getD (k - 1) 0 + 1)) (by rw [getD_set_same _ _ _ _ (by omega)]; rfl) ?_
  refine .q (op_bin8 rfl rfl rfl) trivial rfl ?_
  refine .nil ?_
  show Ev _ _ _ _ _
  refine .cond rfl (fun hc41 => ?_) (fun hc41 => ?_)
  ·simp only [bne_iff_ne, ne_eq] at hc41
   refine .exit ?_
   show Ev _ _ _ _ _
   refine Ev.weak (st2 := ⟨[(2, .str (s0.take 200)), (4, .ptr 1008 0), (7, .ptr 1016 0), (9, .ptr 1024 0)], [(1016, some ⟨cphA (keyM sz) (keyT kB sz), 50, true⟩), (1008, some ⟨.aggB c, 25, true⟩), (1024, some ⟨.aggB (nxL c), 25, true⟩)], 1032⟩) (StLe.mk [(1016, 1016), (1008, 1008), (1024, 1024)] rfl rfl ⟨⟨_, rfl, by rfl, rfl⟩, ⟨_, rfl, by rfl, rfl⟩, ⟨_, rfl, by rfl, rfl⟩, ⟨_, rfl, by rfl, rfl⟩, trivial⟩ ⟨⟨_, _, rfl, rfl, ren_ca _, rfl, id, nm_ca _⟩, ⟨_, _, rfl, rfl, rfl, rfl, id, rfl⟩, ⟨_, _, rfl, rfl, by simp only [AV.ren]; rw [← he]; first | (rw [show k = 0 by omega]; rfl) | ((conv => rhs; rw [show k = (k - 1) + 1 by omega]); rw [nxG, if_neg (by simpa using hc41)]; rfl), rfl, id, rfl⟩, trivial⟩) ?_
   refine .seq ?_
   refine .region ?_
   refine .q (op_move rfl) trivial rfl ?_
   refine .q (op_len_str Tryd.underlying9 rfl) trivial rfl ?_
   refine .q (op_minI rfl rfl) trivial rfl ?_
   refine .as (.i64 ((min 16 (s0.take 200).length : Nat) : Int)) (congrArg AV.i64 (by omega)) ?_
   refine .q (op_assign rfl) trivial rfl ?_
   refine .nil ?_
   show Ev _ _ _ _ _
   refine .seq ?_
   refine .drawn [[], [], [], [], [2, 3], [0, 1, 2, 3, 4], [], [], [], [], [8, 9], [0, 1, 2, 3, 4, 5, 6, 7, 8, 9, 10], [0, 1, 2, 3, 4, 5, 6, 7, 8, 9, 10, 11], [], [], [], [0, 1, 2, 3, 4, 5, 6, 7, 8, 9, 10, 11, 13, 14, 15], [0, 1, 2, 3, 4, 5, 6, 7, 8, 9, 10, 11, 12, 13, 14, 15, 16], [0, 1, 2, 3, 4, 5, 6, 7, 8, 9, 10, 11, 12, 13, 14, 15, 16, 17]] [1, 5, 7, 11, 14, 16] [] (by kernel_rfl) (by kernel_rfl) rfl ?_
   show DK _ [0, 1, 2, 3, 4, 5, 6, 7, 8, 9, 10, 11, 12, 13, 14, 15, 16, 17, 18] _ _ _
   refine .q rfl (op_move rfl) trivial ?_
   refine .q rfl (op_loadRow Tryd.underlying25 rfl sz25 rfl rfl rfl (hl)) trivial ?_
   refine .q rfl (op_move rfl) trivial ?_
   refine .q rfl (op_move rfl) trivial ?_
   refine .q rfl (ap_slice_str_hi Tryd.underlying9 rfl (bnd_some rfl (l := (min 16 (s0.take 200).length)) rfl) (Nat.min_le_right _ _)) trivial ?_
   refine .q rfl (op_call (U := []) [(500, 1016)] [] (xor_ev bxT (padL (exL bxT (keyM sz) (keyT kB sz)) 240) ((keyM sz) + 6) 50 length_bxT hpad (by omega) c _ hl (by rw [List.length_take]; omega)) Tryd.func15 (by kernel_rfl) rfl rfl rfl (⟨⟨_, rfl, rfl, rfl⟩, ⟨_, rfl, rfl, rfl⟩, ⟨_, rfl, rfl, rfl⟩, trivial⟩) (⟨⟨_, _, rfl, rfl, ren_ca _, rfl, (fun h => by cases h), nmC_ca _⟩, trivial⟩) (trivial) (⟨(fun h => by cases h), trivial⟩) rfl) trivial ?_
   refine .as (.str (xoL (blkL bxT (exL bxT (keyM sz) (keyT kB sz)) ((keyM sz) + 6)) c ((s0.take 200).take (min 16 (s0.take 200).length)))) (congrArg AV.str (xor_padK _ _ c _ hkey)) ?_
   refine .q rfl (op_move rfl) trivial ?_
   refine .q rfl (op_loadRow Tryd.underlying25 rfl sz25 rfl rfl rfl ((length_nxL c).trans hl)) trivial ?_
   refine .q rfl (op_move rfl) trivial ?_
   refine .q rfl (op_move rfl) trivial ?_
   refine .q rfl (ap_slice_str_lo Tryd.underlying9 rfl (bnd_some rfl (l := (min 16 (s0.take 200).length)) rfl) (Nat.min_le_right _ _)) trivial ?_
   refine .q rfl (op_call (U := []) [(500, 1016)] [] (xor_ev bxT (padL (exL bxT (keyM sz) (keyT kB sz)) 240) ((keyM sz) + 6) 50 length_bxT hpad (by omega) (nxL c) _ ((length_nxL c).trans hl) (by rw [List.length_drop]; omega)) Tryd.func15 (by kernel_rfl) rfl rfl rfl (⟨⟨_, rfl, rfl, rfl⟩, ⟨_, rfl, rfl, rfl⟩, ⟨_, rfl, rfl, rfl⟩, trivial⟩) (⟨⟨_, _, rfl, rfl, ren_ca _, rfl, (fun h => by cases h), nmC_ca _⟩, trivial⟩) (trivial) (⟨(fun h => by cases h), trivial⟩) rfl) trivial ?_
   refine .as (.str (xoL (blkL bxT (exL bxT (keyM sz) (keyT kB sz)) ((keyM sz) + 6)) (nxL c) ((s0.take 200).drop (min 16 (s0.take 200).length)))) (congrArg AV.str (xor_padK _ _ _ _ hkey)) ?_
   refine .q rfl (op_addS rfl rfl (by rw [length_xoL, length_xoL, List.length_take, List.length_drop]; omega)) trivial ?_
   refine .as (.str (xoL (blkL bxT (exL bxT (keyM sz) (keyT kB sz)) ((keyM sz) + 6)) c (s0.take 200))) (congrArg AV.str (xo_parts _ c (s0.take 200) _ rfl)) ?_
   refine .q rfl (op_move rfl) trivial ?_
   refine .q rfl (op_loadRow Tryd.underlying25 rfl sz25 rfl rfl rfl (hl)) trivial ?_
   refine .q rfl (op_move rfl) trivial ?_
   refine .q rfl (op_call (U := []) [(500, 1016)] [] (xor_ev bxT (padL (exL bxT (keyM sz) (keyT kB sz)) 240) ((keyM sz) + 6) 50 length_bxT hpad (by omega) c _ hl hs) Tryd.func15 (by kernel_rfl) rfl rfl rfl (⟨⟨_, rfl, rfl, rfl⟩, ⟨_, rfl, rfl, rfl⟩, ⟨_, rfl, rfl, rfl⟩, trivial⟩) (⟨⟨_, _, rfl, rfl, ren_ca _, rfl, (fun h => by cases h), nmC_ca _⟩, trivial⟩) (trivial) (⟨(fun h => by cases h), trivial⟩) rfl) trivial ?_
   refine .as (.str (xoL (blkL bxT (exL bxT (keyM sz) (keyT kB sz)) ((keyM sz) + 6)) c (s0.take 200))) (congrArg AV.str (xor_padK _ _ c _ hkey)) ?_
   refine .q rfl (op_eqS rfl rfl rfl) trivial ?_
   refine .as (.bool true) (beq_rfl' _) ?_
   refine .q rfl (op_assign rfl) trivial ?_
   refine .nil ?_
   show Ev _ _ _ _ _
   refine .ret ?_
   show RetOk _ _ _ _ _ _ _
   exact ret1v rfl (.inl rfl) rfl rfl trivial
  ·simp only [bne_eq_false_iff_eq] at hc41
   refine .skip ?_
   show Ev _ _ _ _ _
   refine .region ?_
   refine .q (op_move rfl) trivial rfl ?_
   refine .q (op_subI rfl rfl ⟨by omega, by omega⟩) trivial rfl ?_
   refine .q (op_assign rfl) trivial rfl ?_
   refine .nil ?_
   exact ⟨⟨(k - 1, m.set (k - 1) (m.getD (k - 1) 0 + 1)), by rw [List.length_set]; exact hm, by omega, by rw [← he]; conv => rhs; rw [show k = (k - 1) + 1 by omega]; rw [nxG, if_pos (by simpa using hc41)]⟩, by (try dsimp only); omega, StLe.mk [(1016, 1016), (1008, 1008), (1024, 1024)] rfl rfl ⟨⟨_, rfl, by rfl, rfl⟩, ⟨_, rfl, by rfl, rfl⟩, ⟨_, rfl, by rfl, rfl⟩, ⟨_, rfl, by rfl, rfl⟩, ⟨_, rfl, by (simp only [AV.ren]; exact congrArg AV.i64 (by omega)), rfl⟩, trivial⟩ ⟨⟨_, _, rfl, rfl, ren_ca _, rfl, id, nm_ca _⟩, ⟨_, _, rfl, rfl, rfl, rfl, id, rfl⟩, ⟨_, _, rfl, rfl, rfl, rfl, id, rfl⟩, trivial⟩⟩
 ·simp only [decide_eq_false_iff_not] at hc30
  refine .exit ?_
  show Ev _ _ _ _ _
  refine Ev.weak (st2 := ⟨[(2, .str (s0.take 200)), (4, .ptr 1008 0), (7, .ptr 1016 0), (9, .ptr 1024 0)], [(1016, some ⟨cphA (keyM sz) (keyT kB sz), 50, true⟩), (1008, some ⟨.aggB c, 25, true⟩), (1024, some ⟨.aggB (nxL c), 25, true⟩)], 1032⟩) (StLe.mk [(1016, 1016), (1008, 1008), (1024, 1024)] rfl rfl ⟨⟨_, rfl, by rfl, rfl⟩, ⟨_, rfl, by rfl, rfl⟩, ⟨_, rfl, by rfl, rfl⟩, ⟨_, rfl, by rfl, rfl⟩, trivial⟩ ⟨⟨_, _, rfl, rfl, ren_ca _, rfl, id, nm_ca _⟩, ⟨_, _, rfl, rfl, rfl, rfl, id, rfl⟩, ⟨_, _, rfl, rfl, by simp only [AV.ren]; rw [← he]; first | (rw [show k = 0 by omega]; rfl) | ((conv => rhs; rw [show k = (k - 1) + 1 by omega]); rw [nxG, if_neg (by simpa using hc41)]; rfl), rfl, id, rfl⟩, trivial⟩) ?_
  refine .seq ?_
  refine .region ?_
  refine .q (op_move rfl) trivial rfl ?_
  refine .q (op_len_str Tryd.underlying9 rfl) trivial rfl ?_
  refine .q (op_minI rfl rfl) trivial rfl ?_
  refine .as (.i64 ((min 16 (s0.take 200).length : Nat) : Int)) (congrArg AV.i64 (by omega)) ?_
  refine .q (op_assign rfl) trivial rfl ?_
  refine .nil ?_
  show Ev _ _ _ _ _
  refine .seq ?_
  refine .drawn [[], [], [], [], [2, 3], [0, 1, 2, 3, 4], [], [], [], [], [8, 9], [0, 1, 2, 3, 4, 5, 6, 7, 8, 9, 10], [0, 1, 2, 3, 4, 5, 6, 7, 8, 9, 10, 11], [], [], [], [0, 1, 2, 3, 4, 5, 6, 7, 8, 9, 10, 11, 13, 14, 15], [0, 1, 2, 3, 4, 5, 6, 7, 8, 9, 10, 11, 12, 13, 14, 15, 16], [0, 1, 2, 3, 4, 5, 6, 7, 8, 9, 10, 11, 12, 13, 14, 15, 16, 17]] [1, 5, 7, 11, 14, 16] [] (by kernel_rfl) (by kernel_rfl) rfl ?_
  show DK _ [0, 1, 2, 3, 4, 5, 6, 7, 8, 9, 10, 11, 12, 13, 14, 15, 16, 17, 18] _ _ _
  refine .q rfl (op_move rfl) trivial ?_
  refine .q rfl (op_loadRow Tryd.underlying25 rfl sz25 rfl rfl rfl (hl)) trivial ?_
  refine .q rfl (op_move rfl) trivial ?_
  refine .q rfl (op_move rfl) trivial ?_
  refine .q rfl (ap_slice_str_hi Tryd.underlying9 rfl (bnd_some rfl (l := (min 16 (s0.take 200).length)) rfl) (Nat.min_le_right _ _)) trivial ?_
  refine .q rfl (op_call (U := []) [(500, 1016)] [] (xor_ev bxT (padL (exL bxT (keyM sz) (keyT kB sz)) 240) ((keyM sz) + 6) 50 length_bxT hpad (by omega) c _ hl (by rw [List.length_take]; omega)) Tryd.func15 (by kernel_rfl) rfl rfl rfl (⟨⟨_, rfl, rfl, rfl⟩, ⟨_, rfl, rfl, rfl⟩, ⟨_, rfl, rfl, rfl⟩, trivial⟩) (⟨⟨_, _, rfl, rfl, ren_ca _, rfl, (fun h => by cases h), nmC_ca _⟩, trivial⟩) (trivial) (⟨(fun h => by cases h), trivial⟩) rfl) trivial ?_
  refine .as (.str (xoL (blkL bxT (exL bxT (keyM sz) (keyT kB sz)) ((keyM sz) + 6)) c ((s0.take 200).take (min 16 (s0.take 200).length)))) (congrArg AV.str (xor_padK _ _ c _ hkey)) ?_
  refine .q rfl (op_move rfl) trivial ?_
  refine .q rfl (op_loadRow Tryd.underlying25 rfl sz25 rfl rfl rfl ((length_nxL c).trans hl)) trivial ?_
  refine .q rfl (op_move rfl) trivial ?_
  refine .q rfl (op_move rfl) trivial ?_
  refine .q rfl (ap_slice_str_lo Tryd.underlying9 rfl (bnd_some rfl (l := (min 16 (s0.take 200).length)) rfl) (Nat.min_le_right _ _)) trivial ?_
  refine .q rfl (op_call (U := []) [(500, 1016)] [] (xor_ev bxT (padL (exL bxT (keyM sz) (keyT kB sz)) 240) ((keyM sz) + 6) 50 length_bxT hpad (by omega) (nxL c) _ ((length_nxL c).trans hl) (by rw [List.length_drop]; omega)) Tryd.func15 (by kernel_rfl) rfl rfl rfl (⟨⟨_, rfl, rfl, rfl⟩, ⟨_, rfl, rfl, rfl⟩, ⟨_, rfl, rfl, rfl⟩, trivial⟩) (⟨⟨_, _, rfl, rfl, ren_ca _, rfl, (fun h => by cases h), nmC_ca _⟩, trivial⟩) (trivial) (⟨(fun h => by cases h), trivial⟩) rfl) trivial ?_
  refine .as (.str (xoL (blkL bxT (exL bxT (keyM sz) (keyT kB sz)) ((keyM sz) + 6)) (nxL c) ((s0.take 200).drop (min 16 (s0.take 200).length)))) (congrArg AV.str (xor_padK _ _ _ _ hkey)) ?_
  refine .q rfl (op_addS rfl rfl (by rw [length_xoL, length_xoL, List.length_take, List.length_drop]; omega)) trivial ?_
  refine .as (.str (xoL (blkL bxT (exL bxT (keyM sz) (keyT kB sz)) ((keyM sz) + 6)) c (s0.take 200))) (congrArg AV.str (xo_parts _ c (s0.take 200) _ rfl)) ?_
  refine .q rfl (op_move rfl) trivial ?_
  refine .q rfl (op_loadRow Tryd.underlying25 rfl sz25 rfl rfl rfl (hl)) trivial ?_
  refine .q rfl (op_move rfl) trivial ?_
  refine .q rfl (op_call (U := []) [(500, 1016)] [] (xor_ev bxT (padL (exL bxT (keyM sz) (keyT kB sz)) 240) ((keyM sz) + 6) 50 length_bxT hpad (by omega) c _ hl hs) Tryd.func15 (by kernel_rfl) rfl rfl rfl (⟨⟨_, rfl, rfl, rfl⟩, ⟨_, rfl, rfl, rfl⟩, ⟨_, rfl, rfl, rfl⟩, trivial⟩) (⟨⟨_, _, rfl, rfl, ren_ca _, rfl, (fun h => by cases h), nmC_ca _⟩, trivial⟩) (trivial) (⟨(fun h => by cases h), trivial⟩) rfl) trivial ?_
  refine .as (.str (xoL (blkL bxT (exL bxT (keyM sz) (keyT kB sz)) ((keyM sz) + 6)) c (s0.take 200))) (congrArg AV.str (xor_padK _ _ c _ hkey)) ?_
  refine .q rfl (op_eqS rfl rfl rfl) trivial ?_
  refine .as (.bool true) (beq_rfl' _) ?_
  refine .q rfl (op_assign rfl) trivial ?_
  refine .nil ?_
  show Ev _ _ _ _ _
  refine .ret ?_
  show RetOk _ _ _ _ _ _ _
  exact ret1v rfl (.inl rfl) rfl rfl trivial
end Go.Proofs.YtdpdmgbdipokdaaDoor
namespace Go.Proofs.YtdpdmgbdipokdaaDoor
open Go.ChangeShapes Go.WideShapes Go.ChangeAt Go.RowKit
theorem take_one_get {α : Type} {L : List α} {k : Nat} {v : α} (h : (L.drop k).take 1 = [v]) : L[k]? = some v := by
  have h1 := congrArg (fun l => l[0]?) h
  simp only [List.getElem?_take, List.getElem?_drop, List.getElem?_cons_zero] at h1
  simpa using h1
theorem u8_wf {n : Int} (h : (Lit.int .u8 n).wf = true) : ∃ x : UInt8, n = (x.toNat : Int) := by
  simp [Lit.wf] at h
  have h1 : IntKind.u8.min = 0 := rfl
  have h2 : IntKind.u8.max = 255 := rfl
  refine ⟨UInt8.ofNat n.toNat, ?_⟩
  have h3 : (UInt8.ofNat n.toNat).toNat = n.toNat := by rw [UInt8.toNat_ofNat']; exact Nat.mod_eq_of_lt (by omega)
  rw [h3]; omega
/-- A key as an argument: 32 bytes and a number. -/
theorem key_gen {P : Program} {H : Type} {enc : TypeId × Value → H} {W : World} {b0 tT tB tb ti : Nat} {f0 f1 : Field} {v : Value} {d : DataW H} {ps : List MemPlace} {sp : Nat → Bool}
    (hu : P.underlying tT = some (.struct #[f0, f1])) (o0 : f0.offset = 0) (o1 : f1.offset = 32)
    (t0 : f0.type = tB) (t1 : f1.type = ti) (hB : P.underlying tB = some (.array 32 tb)) (hb : P.underlying tb = some (.int .u8)) (hi : P.underlying ti = some (.int .i64))
    (cT : P.cellsOf tT = 33) (cB : P.cellsOf tB = 32) (cb : P.cellsOf tb = 1) (ci : P.cellsOf ti = 1)
    (hv : Value.okWide P W .any b0 tT v) (h : DataW.Trod enc P W 0 sp true tT v d ps) :
    ∃ (key : List UInt8) (sz : Int), key.length = 32 ∧ ∀ E, Rel E (.agg (key.map .u8 ++ [.i64 sz])) v := by
  simp only [Value.okWide, hu] at hv
  obtain ⟨cs, rfl, hsz, _⟩ := hv
  obtain ⟨fuel, hf⟩ := h
  simp only [Value.cells] at hf
  obtain ⟨xs, n, hn, hx, hcl, hxl, hfield⟩ := DataW.trod_struct hu hf
  have hxl' : xs.length = 2 := hxl
  have g : ∀ i, i < 2 → ∃ x, xs[i]? = some x := fun i hi => ⟨xs[i], List.getElem?_eq_getElem (by omega)⟩
  obtain ⟨x0, e0⟩ := g 0 (by decide)
  obtain ⟨x1, e1⟩ := g 1 (by decide)
  have q0 := hfield 0 f0 rfl
  have q1 := hfield 1 f1 rfl
  rw [t0, o0, cB, e0] at q0
  rw [t1, o1, ci, e1] at q1
  obtain ⟨n1, k1, _, _⟩ := DataW.trod_int hi q1
  obtain ⟨ys, m, hm, hy, hyl, hysl, hyf⟩ := DataW.trod_array hB q0
  have each : ∀ i, i < 32 → ∃ u : UInt8, cs.toList[i]? = some (.int .u8 (u.toNat : Int)) := fun i hi' => by
    have h1 := hyf i hi'
    rw [cb, Nat.mul_one, List.getElem?_eq_getElem (show i < ys.length by omega)] at h1
    obtain ⟨z, k, _, w⟩ := DataW.trod_int hb h1
    obtain ⟨u, rfl⟩ := u8_wf w
    refine ⟨u, ?_⟩
    have := take_one_get k
    rw [List.drop_zero, List.getElem?_take, if_pos hi'] at this
    exact this
  obtain ⟨kf, hkf⟩ := Go.Deep.choose_lt each
  have hlen : cs.size = 33 := by rw [hsz]; exact cT
  have hkl : ((List.range 32).map kf).length = 32 := by simp
  have hml : (((List.range 32).map kf).map AV.u8).length = 32 := by rw [List.length_map]; exact hkl
  refine ⟨(List.range 32).map kf, n1, hkl, fun E => .agg _ _ _ rfl (by rw [List.length_append, hml, hlen]; rfl) (fun x hx => ?_) (fun i x y hx hy => ?_)⟩
  · rcases List.mem_append.1 hx with hx | hx
    · obtain ⟨u, _, rfl⟩ := List.mem_map.1 hx; rfl
    · rcases List.mem_singleton.1 hx with rfl; rfl
  rw [← Array.getElem?_toList] at hy
  by_cases hlt : i < 32
  · have hx' : x = .u8 (kf i) := by
      rw [List.getElem?_append_left (by rw [hml]; exact hlt), List.getElem?_map, List.getElem?_map, List.getElem?_range hlt] at hx
      exact (Option.some.inj hx).symm
    rw [hkf i hlt] at hy
    injection hy with hy
    subst hx'; subst hy
    exact .u8 _
  · rw [List.getElem?_append_right (by rw [hml]; omega), hml] at hx
    have p1 := take_one_get k1
    by_cases h32 : i = 32
    · subst h32
      rw [p1] at hy
      injection hx with hx; injection hy with hy; subst hx; subst hy; exact .i64 _
    · rw [show i - 32 = (i - 33) + 1 by omega] at hx
      simp at hx
set_option maxRecDepth 100000 in
theorem aesBlocks_all {H : Type} {enc : TypeId × Value → H} {v : Value} {d : DataW H} {ps : List MemPlace} (W : World) {b0 : Nat} (b : List UInt8) (hl : b.length = 16) (hv : Value.okWide Tryd.prog W .any b0 24 v)
  (ht : DataW.Trod enc Tryd.prog W 0 (fun _ => true) true 24 v d ps) :
  Calls Tryd.prog 3 #[v, .agg (b.map U8).toArray] W fun e W' => e = .returned (.bool true) ∧ Below W.heap.size W W' := by
 have cT : Tryd.prog.cellsOf 24 = 33 := by kernel_rfl
 have cB : Tryd.prog.cellsOf 22 = 32 := by kernel_rfl
 have cb : Tryd.prog.cellsOf 5 = 1 := by kernel_rfl
 have ci : Tryd.prog.cellsOf 3 = 1 := by kernel_rfl
 obtain ⟨key, sz, hk, hr⟩ := key_gen (P := Tryd.prog) (W := W) (tB := 22) (tb := 5) (ti := 3) Tryd.underlying24 rfl rfl rfl rfl Tryd.underlying22 Tryd.underlying5 Tryd.underlying3 cT cB cb ci hv ht
 refine walk_of_meets (aesBlocks_ev key sz b hk hl) rfl (fun i x y hx hy => ?_) (fun b k h => by cases h)
 match i, hx, hy with
 | 0, hx, hy => injection hx with hx; injection hy with hy; subst hx; subst hy; exact hr _
 | 1, hx, hy => injection hx with hx; injection hy with hy; subst hx; subst hy; exact rel_bytes _ _
 | i + 2, hx, _ => simp at hx
set_option maxRecDepth 100000 in
theorem aesBack_all {H : Type} {enc : TypeId × Value → H} {v : Value} {d : DataW H} {ps : List MemPlace} (W : World) {b0 : Nat} (b : List UInt8) (hl : b.length = 16) (hv : Value.okWide Tryd.prog W .any b0 24 v)
  (ht : DataW.Trod enc Tryd.prog W 0 (fun _ => true) true 24 v d ps) :
  Calls Tryd.prog 4 #[v, .agg (b.map U8).toArray] W fun e W' => e = .returned (.bool true) ∧ Below W.heap.size W W' := by
 have cT : Tryd.prog.cellsOf 24 = 33 := by kernel_rfl
 have cB : Tryd.prog.cellsOf 22 = 32 := by kernel_rfl
 have cb : Tryd.prog.cellsOf 5 = 1 := by kernel_rfl
 have ci : Tryd.prog.cellsOf 3 = 1 := by kernel_rfl
 obtain ⟨key, sz, hk, hr⟩ := key_gen (P := Tryd.prog) (W := W) (tB := 22) (tb := 5) (ti := 3) Tryd.underlying24 rfl rfl rfl rfl Tryd.underlying22 Tryd.underlying5 Tryd.underlying3 cT cB cb ci hv ht
 refine walk_of_meets (aesBack_ev key sz b hk hl) rfl (fun i x y hx hy => ?_) (fun b k h => by cases h)
 match i, hx, hy with
 | 0, hx, hy => injection hx with hx; injection hy with hy; subst hx; subst hy; exact hr _
 | 1, hx, hy => injection hx with hx; injection hy with hy; subst hx; subst hy; exact rel_bytes _ _
 | i + 2, hx, _ => simp at hx
set_option maxRecDepth 100000 in
theorem aesXors_all {H : Type} {enc : TypeId × Value → H} {v : Value} {d : DataW H} {ps : List MemPlace} (W : World) {b0 : Nat} (b : List UInt8) (hl : b.length = 16) (s : ByteArray) (hs : s.size ≤ maxLen) (hv : Value.okWide Tryd.prog W .any b0 24 v)
  (ht : DataW.Trod enc Tryd.prog W 0 (fun _ => true) true 24 v d ps) :
  Calls Tryd.prog 5 #[v, .agg (b.map U8).toArray, .string s] W fun e W' => e = .returned (.bool true) ∧ Below W.heap.size W W' := by
 have cT : Tryd.prog.cellsOf 24 = 33 := by kernel_rfl
 have cB : Tryd.prog.cellsOf 22 = 32 := by kernel_rfl
 have cb : Tryd.prog.cellsOf 5 = 1 := by kernel_rfl
 have ci : Tryd.prog.cellsOf 3 = 1 := by kernel_rfl
 obtain ⟨key, sz, hk, hr⟩ := key_gen (P := Tryd.prog) (W := W) (tB := 22) (tb := 5) (ti := 3) Tryd.underlying24 rfl rfl rfl rfl Tryd.underlying22 Tryd.underlying5 Tryd.underlying3 cT cB cb ci hv ht
 refine walk_of_meets (aesXors_ev key sz b s.data.toList hk hl (show s.data.toList.length ≤ maxLen from hs)) rfl (fun i x y hx hy => ?_) (fun b k h => by cases h)
 match i, hx, hy with
 | 0, hx, hy => injection hx with hx; injection hy with hy; subst hx; subst hy; exact hr _
 | 1, hx, hy => injection hx with hx; injection hy with hy; subst hx; subst hy; exact rel_bytes _ _
 | 2, hx, hy => injection hx with hx; injection hy with hy; subst hx; subst hy; exact .str _
 | i + 3, hx, _ => simp at hx
set_option maxRecDepth 100000 in
theorem aesParts_all {H : Type} {enc : TypeId × Value → H} {v : Value} {d : DataW H} {ps : List MemPlace} (W : World) {b0 : Nat} (b : List UInt8) (hl : b.length = 16) (s : ByteArray) (hs : s.size ≤ maxLen) (hv : Value.okWide Tryd.prog W .any b0 24 v)
  (ht : DataW.Trod enc Tryd.prog W 0 (fun _ => true) true 24 v d ps) :
  Calls Tryd.prog 7 #[v, .agg (b.map U8).toArray, .string s] W fun e W' => e = .returned (.bool true) ∧ Below W.heap.size W W' := by
 have cT : Tryd.prog.cellsOf 24 = 33 := by kernel_rfl
 have cB : Tryd.prog.cellsOf 22 = 32 := by kernel_rfl
 have cb : Tryd.prog.cellsOf 5 = 1 := by kernel_rfl
 have ci : Tryd.prog.cellsOf 3 = 1 := by kernel_rfl
 obtain ⟨key, sz, hk, hr⟩ := key_gen (P := Tryd.prog) (W := W) (tB := 22) (tb := 5) (ti := 3) Tryd.underlying24 rfl rfl rfl rfl Tryd.underlying22 Tryd.underlying5 Tryd.underlying3 cT cB cb ci hv ht
 refine walk_of_meets (aesParts_ev key sz b s.data.toList hk hl (show s.data.toList.length ≤ maxLen from hs)) rfl (fun i x y hx hy => ?_) (fun b k h => by cases h)
 match i, hx, hy with
 | 0, hx, hy => injection hx with hx; injection hy with hy; subst hx; subst hy; exact hr _
 | 1, hx, hy => injection hx with hx; injection hy with hy; subst hx; subst hy; exact rel_bytes _ _
 | 2, hx, hy => injection hx with hx; injection hy with hy; subst hx; subst hy; exact .str _
 | i + 3, hx, _ => simp at hx
end Go.Proofs.YtdpdmgbdipokdaaDoor
