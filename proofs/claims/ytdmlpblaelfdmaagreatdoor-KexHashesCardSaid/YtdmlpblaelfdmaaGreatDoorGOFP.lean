/-
  Texts of this claim.
-/
import Derived.Test.YtdmlpblaelfdmaaGreatDoorGEP
import Derived.Test.YtdmlpblaelfdmaaGreatDoorGOBP
namespace Go.Proofs.YtdmlpblaelfdmaaGreatDoor
open Go.RowKit
/-- A key's cells, one by one. -/
def kX (key : List UInt8) : List AV := [.u8 (key.getD 0 0), .u8 (key.getD 1 0), .u8 (key.getD 2 0), .u8 (key.getD 3 0), .u8 (key.getD 4 0), .u8 (key.getD 5 0), .u8 (key.getD 6 0), .u8 (key.getD 7 0), .u8 (key.getD 8 0), .u8 (key.getD 9 0), .u8 (key.getD 10 0), .u8 (key.getD 11 0), .u8 (key.getD 12 0), .u8 (key.getD 13 0), .u8 (key.getD 14 0), .u8 (key.getD 15 0), .u8 (key.getD 16 0), .u8 (key.getD 17 0), .u8 (key.getD 18 0), .u8 (key.getD 19 0), .u8 (key.getD 20 0), .u8 (key.getD 21 0), .u8 (key.getD 22 0), .u8 (key.getD 23 0), .u8 (key.getD 24 0), .u8 (key.getD 25 0), .u8 (key.getD 26 0), .u8 (key.getD 27 0), .u8 (key.getD 28 0), .u8 (key.getD 29 0), .u8 (key.getD 30 0), .u8 (key.getD 31 0)]
theorem kX_eq {key : List UInt8} (h : key.length = 32) : kX key = key.map .u8 := by
  refine List.ext_getElem? fun i => ?_
  rw [List.getElem?_map]
  by_cases hi : i < 32
  · have hi2 : i < key.length := by omega
    rw [List.getElem?_eq_getElem hi2]
    have e : ∀ j, j < 32 → (kX key)[j]? = some (.u8 (key.getD j 0)) := by
      intro j hj
      have : ∀ q : Fin 32, (kX key)[q.1]? = some (AV.u8 (key.getD q.1 0)) := by
        intro q
        match q with
        | ⟨0, _⟩ => rfl
        | ⟨1, _⟩ => rfl
        | ⟨2, _⟩ => rfl
        | ⟨3, _⟩ => rfl
        | ⟨4, _⟩ => rfl
        | ⟨5, _⟩ => rfl
        | ⟨6, _⟩ => rfl
        | ⟨7, _⟩ => rfl
        | ⟨8, _⟩ => rfl
        | ⟨9, _⟩ => rfl
        | ⟨10, _⟩ => rfl
        | ⟨11, _⟩ => rfl
        | ⟨12, _⟩ => rfl
        | ⟨13, _⟩ => rfl
        | ⟨14, _⟩ => rfl
        | ⟨15, _⟩ => rfl
        | ⟨16, _⟩ => rfl
        | ⟨17, _⟩ => rfl
        | ⟨18, _⟩ => rfl
        | ⟨19, _⟩ => rfl
        | ⟨20, _⟩ => rfl
        | ⟨21, _⟩ => rfl
        | ⟨22, _⟩ => rfl
        | ⟨23, _⟩ => rfl
        | ⟨24, _⟩ => rfl
        | ⟨25, _⟩ => rfl
        | ⟨26, _⟩ => rfl
        | ⟨27, _⟩ => rfl
        | ⟨28, _⟩ => rfl
        | ⟨29, _⟩ => rfl
        | ⟨30, _⟩ => rfl
        | ⟨31, _⟩ => rfl
        | ⟨m + 32, hm⟩ => exact absurd hm (by omega)
      exact this ⟨j, hj⟩
    rw [e i hi, List.getD_eq_getElem?_getD, List.getElem?_eq_getElem hi2]; rfl
  · rw [List.getElem?_eq_none (show (kX key).length ≤ i from Nat.le_of_not_lt hi), List.getElem?_eq_none (by omega)]; rfl
end Go.Proofs.YtdmlpblaelfdmaaGreatDoor
namespace Go.Proofs.YtdmlpblaelfdmaaGreatDoor
open Go.RowKit
section
variable {P : Program} {T : Nat → Option AV} {H : Hp} {nm : Nat} {wr : Bool} {d : Option Tmp} {ty t : TypeId} {ps : String} {af : Array Edge} {gd : Option (Nat × Bool)}
theorem op_buildRows2 {zc : Array Value} {x y : Operand} {u1 u2 r : AV} {xs ys : List AV} {m : Nat} {e : TypeId} (hu : P.underlying t = some (.array 2 e)) (he : (P.info? e).map (·.size) = some m) (hz : (P.info? t).map (·.zero) = some (some (.agg zc))) (hs : zc.size = m + m)
    (hx : aev T x = some u1) (hy : aev T y = some u2) (c1 : u1.parts = some xs) (c2 : u2.parts = some ys) (l1 : xs.length = m) (l2 : ys.length = m) (hr : r.parts = some (xs ++ ys)) :
    OpSem P T H ⟨d, .build t #[(0, x), (1, y)], ty, ps, af, gd⟩ nm wr r [] :=
  .quiet fun E a w h => by
    have h1 := h x (by simp [Op.operands]) _ hx
    have h2 := h y (by simp [Op.operands]) _ hy
    obtain ⟨dl, hd, hl, o1, q1⟩ := h1.agg_inv c1
    obtain ⟨dr, hd2, hl2, o2, q2⟩ := h2.agg_inv c2
    refine ⟨.agg (dl ++ dr), ?_, .agg r (xs ++ ys) _ hr (by simp [hl, hl2]) (fun z hz => ?_) (fun i p q hp hq => ?_)⟩
    · have key := foldset_app dl dr zc (by omega)
      have e1 : Instr.fill (fun i => some (i * m, m)) zc [(0, .agg dl), (1, .agg dr)] = some (dl ++ dr) := by
        have s1 : (dl.zipIdx.foldl (fun cs x => cs.setIfInBounds x.2 x.1) zc).size = zc.size := by
          rw [← Array.foldl_toList, Array.toList_zipIdx]; exact (foldset dl.toList 0 zc (by simp; omega)).1
        show (if dl.size ≠ m || 0 * m + dl.size > zc.size then none else
          (if dr.size ≠ m || 1 * m + dr.size > (dl.zipIdx.foldl (fun cs x => cs.setIfInBounds (0 * m + x.2) x.1) zc).size then none else
            some (dr.zipIdx.foldl (fun cs x => cs.setIfInBounds (1 * m + x.2) x.1) (dl.zipIdx.foldl (fun cs x => cs.setIfInBounds (0 * m + x.2) x.1) zc)))) = _
        have z : (fun (cs : Array Value) (x : Value × Nat) => cs.setIfInBounds (0 * m + x.2) x.1) = fun cs x => cs.setIfInBounds x.2 x.1 := by funext cs x; rw [Nat.zero_mul, Nat.zero_add]
        rw [z, if_neg (by simp; omega), if_neg (by rw [s1]; simp; omega), Nat.one_mul, show m = dl.size by omega, key]
      have hzr : (zeroValue t).run P w = .ok (.agg zc) w := by
        cases hq : P.info? t with
        | none => simp [hq] at hz
        | some i => simp [hq] at hz; simp [zeroValue, typeInfo, hq, hz]
      have e2 : (#[((0 : Nat), x), (1, y)].map fun (i, x) => (i, a.eval x)).toList = [(0, .agg dl), (1, .agg dr)] := by simp [hd, hd2]
      simp only [execOp, Sem.run_bind, Instr.build, hzr, Result.andThen_ok, run_underlying hu, run_sizeOf_is he, Value.cells]
      rw [e2, e1]
      rfl
    · rcases List.mem_append.1 hz with hz | hz
      · exact o1 z hz
      · exact o2 z hz
    · by_cases hi : i < xs.length
      · rw [List.getElem?_append_left hi] at hp
        rw [Array.getElem?_append_left (by omega)] at hq
        exact q1 i p q hp hq
      · rw [List.getElem?_append_right (by omega)] at hp
        rw [Array.getElem?_append_right (by omega), ← hl] at hq
        exact q2 _ p q hp hq
end
end Go.Proofs.YtdmlpblaelfdmaaGreatDoor
namespace Go.Proofs.YtdmlpblaelfdmaaGreatDoor
open Go.RowKit
section
variable {P : Program} {w : World}
end
section
variable {P : Program} {T : Nat → Option AV} {H : Hp} {nm : Nat} {wr : Bool} {d : Option Tmp} {ty : TypeId} {ps : String} {af : Array Edge} {gd : Option (Nat × Bool)}
end
end Go.Proofs.YtdmlpblaelfdmaaGreatDoor
namespace Go.Proofs.YtdmlpblaelfdmaaGreatDoor
open Go.RowKit
/-- An exchange as a row of cells. -/
def exC (l0 l1 i0 i1 h p0 p1 sec : List UInt8) : AV := .agg (.str l0 :: .str l1 :: .str i0 :: .str i1 :: .str h :: (kX p0 ++ (kX p1 ++ kX sec)))
theorem zero57 : (Tryz.prog.info? 57).map (·.zero) = some (some (.agg #[.string ⟨#[]⟩, .string ⟨#[]⟩])) := by kernel_rfl
theorem rel_zero57 : Rel (fun _ => none) (.agg [.str [], .str []]) (.agg #[.string ⟨#[]⟩, .string ⟨#[]⟩]) := rel_agg rfl ⟨.str [], .str [], trivial⟩
theorem sz58 : (Tryz.prog.info? 58).map (·.size) = some 64 := by kernel_rfl
theorem zero58 : (Tryz.prog.info? 58).map (·.zero) = some (some (.agg (Array.replicate 64 (.int .u8 0)))) := by kernel_rfl
theorem rel_zero58 : Rel (fun _ => none) (.aggB (List.replicate 64 0)) (.agg (Array.replicate 64 (.int .u8 0))) := rz_B _ 64
/-- What the exchange hash is of. -/
def hshP (l0 l1 i0 i1 h p0 p1 sec : List UInt8) : List UInt8 := sha256 (textB l0 ++ textB l1 ++ textB i0 ++ textB i1 ++ textB h ++ textB p0 ++ textB p1 ++ bigB sec)
theorem length_hshP (l0 l1 i0 i1 h p0 p1 sec : List UInt8) : (hshP l0 l1 i0 i1 h p0 p1 sec).length = 32 := length_sha256 _
theorem kX_take (p0 p1 : List UInt8) (h0 : p0.length = 32) (h1 : p1.length = 32) : (p0 ++ p1).map AV.u8 = kX p0 ++ kX p1 := by rw [kX_eq h0, kX_eq h1, List.map_append]
theorem rel_part0 (p0 p1 : List UInt8) (hp0 : p0.length = 32) (_hp1 : p1.length = 32) {E : Emb} {y : Value} (h : Rel E (.agg (((((p0 ++ p1).map AV.u8)).drop (0 * 32)).take 32)) y) : Rel E (.aggB p0) y := by
  have e : (((p0 ++ p1).map AV.u8).drop (0 * 32)).take 32 = p0.map AV.u8 := by rw [Nat.zero_mul, List.drop_zero, List.map_append, List.take_left' (by rw [List.length_map, hp0])]
  rw [e] at h
  obtain ⟨ds, q1, q2, q3, q4⟩ := h.agg_inv rfl
  rw [q1]; exact .agg _ (p0.map .u8) _ rfl q2 q3 q4
theorem rel_part1 (p0 p1 : List UInt8) (hp0 : p0.length = 32) (hp1 : p1.length = 32) {E : Emb} {y : Value} (h : Rel E (.agg (((((p0 ++ p1).map AV.u8)).drop (1 * 32)).take 32)) y) : Rel E (.aggB p1) y := by
  have e : (((p0 ++ p1).map AV.u8).drop (1 * 32)).take 32 = p1.map AV.u8 := by rw [Nat.one_mul, List.map_append, List.drop_left' (by rw [List.length_map, hp0]), List.take_of_length_le (by rw [List.length_map, hp1]; omega)]
  rw [e] at h
  obtain ⟨ds, q1, q2, q3, q4⟩ := h.agg_inv rfl
  rw [q1]; exact .agg _ (p1.map .u8) _ rfl q2 q3 q4
set_option maxHeartbeats 2000000 in
set_option maxRecDepth 100000 in
theorem hash_ev (l0 l1 i0 i1 h p0 p1 sec : List UInt8) (ek : Nat) (hl0 : l0.length ≤ 1000) (hl1 : l1.length ≤ 1000) (hi0 : i0.length ≤ 1000) (hi1 : i1.length ≤ 1000) (hh : h.length ≤ 1000) (hp0 : p0.length = 32) (hp1 : p1.length = 32) (hsec : sec.length = 32) : Meets Tryz.prog 26 [exC l0 l1 i0 i1 h p0 p1 sec] [(21, some ⟨.agg32 K256, ek, false⟩)] (.aggB (hshP l0 l1 i0 i1 h p0 p1 sec)) [] := by
 have hbg := bigB_le sec
 refine meets_of_ev (nt := 41) Tryz.func26 rfl rfl (Nat.le_of_ble_eq_true rfl) ?_
 refine .seq ?_
 refine .region ?_
 refine .a (op_boxRow rfl rfl) trivial rfl ?_
 refine .a (op_allocRow zero24 rel_zero24 rfl) trivial rfl ?_
 refine .nil ?_
 show Ev _ _ _ _ _
 refine .seq ?_
 refine .region ?_
 refine .a (op_allocRow zero82 rel_zero82 rfl) trivial rfl ?_
 refine .nil ?_
 show Ev _ _ _ _ _
 refine .seq ?_
 refine .seq ?_
 refine .region ?_
 refine .q (op_fieldAddr (m := 1) Tryz.underlying60 rfl (by kernel_rfl) rfl) trivial rfl ?_
 refine .as (.ptr 1000 0) rfl ?_
 refine .q (op_loadPart (m := 2) (r := .aggS [l0, l1]) (cs := [.str l0, .str l1]) Tryz.underlying57 rfl (by kernel_rfl) rfl rfl rfl (rfl) (rfl) (show 0 + 2 ≤ 101 by decide)) trivial rfl ?_
 refine .q (op_fieldAddr (m := 1) Tryz.underlying60 rfl (by kernel_rfl) rfl) trivial rfl ?_
 refine .as (.ptr 1000 2) rfl ?_
 refine .q (op_loadPart (m := 2) (r := .aggS [i0, i1]) (cs := [.str i0, .str i1]) Tryz.underlying57 rfl (by kernel_rfl) rfl rfl rfl (rfl) (rfl) (show 2 + 2 ≤ 101 by decide)) trivial rfl ?_
 refine .q (op_buildRows2 (m := 2) (r := .aggS [l0, l1, i0, i1]) (zc := #[.string ⟨#[]⟩, .string ⟨#[]⟩, .string ⟨#[]⟩, .string ⟨#[]⟩]) Tryz.underlying107 (by kernel_rfl) (by kernel_rfl) rfl rfl rfl rfl rfl rfl rfl rfl) trivial rfl ?_
 refine .q (op_move rfl) trivial rfl ?_
 refine .nil ?_
 show Ev _ _ _ _ _
 refine .block ?_
 refine Ev.rounds 3 ?_
 show Ev _ _ _ _ _
 refine .seq ?_
 refine .region ?_
 refine .q (op_cmpI rfl rfl rfl) trivial rfl ?_
 refine .nil ?_
 show Ev _ _ _ _ _
 refine .seq ?_
 refine .cond_true rfl (rfl) ?_
 refine .skip ?_
 show Ev _ _ _ _ _
 refine .seq ?_
 refine .block ?_
 refine .seq ?_
 refine .region ?_
 refine .q (op_index_rowS (z := 2) (i := 0) Tryz.underlying107 Tryz.underlying57 rfl (by kernel_rfl) rfl rfl rfl rfl (show 0 * 2 + 2 ≤ 4 by decide) (by decide)) trivial rfl ?_
 refine .as (.agg [.str l0, .str l1]) rfl ?_
 refine .a (op_allocRow zero57 rel_zero57 rfl) trivial rfl ?_
 refine .w (op_storeRow (by kernel_rfl) rfl rfl rfl rfl rfl (rfl) (rfl)) trivial rfl ?_
 refine .nil ?_
 show Ev _ _ _ _ _
 refine .drawnF [[], [0], [0, 1], [], [3], [0, 1, 2, 3, 4]] [1, 2, 4, 5] [] [(1, ([1024], [])), (2, ([], [1016])), (4, ([1024], [])), (5, ([], [1016, 1048]))] (by kernel_rfl) (by kernel_rfl) rfl ?_
 show DK _ [0, 1, 2, 3, 4, 5] _ _ _
 refine .q rfl (ap_idx_arr Tryz.underlying57 inf9.sz rfl rfl rfl (by first | omega | (skip; omega) | (skip; omega) | assumption | (simp; done))) trivial ?_
 refine .q rfl (op_load Tryz.underlying9 rfl rfl rfl rfl (by show 0 < 2; decide)) trivial ?_
 refine .as (.str l0) rfl ?_
 refine .a rfl (op_call (U := [(1016, some ⟨.agg [.ptr 1016 0, .sl 1048 0 ((4 + l0.length)) 1], 82, true⟩), (1048, some ⟨.aggB (textB l0), 5, true⟩)]) [(500, 1016)] [(1048, 1008)] (text0_ev l0 (by omega)) Tryz.func48 (by kernel_rfl) rfl rfl rfl (⟨⟨_, rfl, rfl, rfl⟩, ⟨_, rfl, rfl, rfl⟩, trivial⟩) (⟨⟨_, _, rfl, rfl, rfl, rfl, id, rfl⟩, trivial⟩) (⟨⟨500, _, rfl, rfl, rfl, rfl, .inr ⟨rfl, _, rfl, rfl⟩⟩, ⟨1008, _, rfl, rfl, rfl, rfl, .inl rfl⟩, trivial⟩) (⟨(fun _ => ⟨1016, _, rfl, rfl⟩), trivial⟩) rfl) trivial rfl rfl ?_
 refine .q rfl (ap_idx_arr Tryz.underlying57 inf9.sz rfl rfl rfl (by first | omega | (skip; omega) | (skip; omega) | assumption | (simp; done))) trivial ?_
 refine .q rfl (op_load Tryz.underlying9 rfl rfl rfl rfl (by show 1 < 2; decide)) trivial ?_
 refine .as (.str l1) rfl ?_
 refine .a rfl (op_call (U := [(1016, some ⟨.agg [.ptr 1016 0, .sl 1072 0 ((4 + l0.length) + (4 + l1.length)) 1], 82, true⟩), (1072, some ⟨.aggB ((textB l0) ++ textB l1), 5, true⟩), (1048, none)]) [(500, 1016), (501, 1048)] [(1072, 1008)] (text2_ev l1 (by omega) ((textB l0)) ((4 + l0.length)) (by first | exact hn | (simp [length_textB]; done) | (simp [length_numB, length_lenB, length_textB]; omega) | omega | decide +kernel) (by omega)) Tryz.func48 (by kernel_rfl) rfl rfl rfl (⟨⟨_, rfl, rfl, rfl⟩, ⟨_, rfl, rfl, rfl⟩, trivial⟩) (⟨⟨_, _, rfl, rfl, rfl, rfl, id, rfl⟩, ⟨_, _, rfl, rfl, rfl, rfl, id, rfl⟩, trivial⟩) (⟨⟨500, _, rfl, rfl, rfl, rfl, .inr ⟨rfl, _, rfl, rfl⟩⟩, ⟨1008, _, rfl, rfl, rfl, rfl, .inl rfl⟩, trivial⟩) (⟨(fun _ => ⟨1016, _, rfl, rfl⟩), (fun _ => ⟨1048, _, rfl, rfl⟩), trivial⟩) rfl) trivial rfl rfl ?_
 refine .nil ?_
 show Ev _ _ _ _ _
 refine .region ?_
 refine .q (op_addI rfl rfl ⟨by omega, by omega⟩) trivial rfl ?_
 refine .as (.i64 1) rfl ?_
 refine .q (op_move rfl) trivial rfl ?_
 refine .nil ?_
 show Ev _ _ _ _ _
 refine .seq ?_
 refine .region ?_
 refine .q (op_cmpI rfl rfl rfl) trivial rfl ?_
 refine .nil ?_
 show Ev _ _ _ _ _
 refine .seq ?_
 refine .cond_true rfl (rfl) ?_
 refine .skip ?_
 show Ev _ _ _ _ _
 refine .seq ?_
 refine .block ?_
 refine .seq ?_
 refine .region ?_
 refine .q (op_index_rowS (z := 2) (i := 1) Tryz.underlying107 Tryz.underlying57 rfl (by kernel_rfl) rfl rfl rfl rfl (show 1 * 2 + 2 ≤ 4 by decide) (by decide)) trivial rfl ?_
 refine .as (.agg [.str i0, .str i1]) rfl ?_
 refine .a (op_allocRow zero57 rel_zero57 rfl) trivial rfl ?_
 refine .w (op_storeRow (by kernel_rfl) rfl rfl rfl rfl rfl (rfl) (rfl)) trivial rfl ?_
 refine .nil ?_
 show Ev _ _ _ _ _
 refine .drawnF [[], [0], [0, 1], [], [3], [0, 1, 2, 3, 4]] [1, 2, 4, 5] [] [(1, ([1080], [])), (2, ([], [1016, 1072])), (4, ([1080], [])), (5, ([], [1016, 1104]))] (by kernel_rfl) (by kernel_rfl) rfl ?_
 show DK _ [0, 1, 2, 3, 4, 5] _ _ _
 refine .q rfl (ap_idx_arr Tryz.underlying57 inf9.sz rfl rfl rfl (by first | omega | (skip; omega) | (skip; omega) | assumption | (simp; done))) trivial ?_
 refine .q rfl (op_load Tryz.underlying9 rfl rfl rfl rfl (by show 0 < 2; decide)) trivial ?_
 refine .as (.str i0) rfl ?_
 refine .a rfl (op_call (U := [(1016, some ⟨.agg [.ptr 1016 0, .sl 1104 0 ((4 + l0.length) + (4 + l1.length) + (4 + i0.length)) 1], 82, true⟩), (1104, some ⟨.aggB (((textB l0) ++ textB l1) ++ textB i0), 5, true⟩), (1072, none)]) [(500, 1016), (501, 1072)] [(1104, 1008)] (text2_ev i0 (by omega) (((textB l0) ++ textB l1)) ((4 + l0.length) + (4 + l1.length)) (by first | exact hn | (simp [length_textB]; done) | (simp [length_numB, length_lenB, length_textB]; omega) | omega | decide +kernel) (by omega)) Tryz.func48 (by kernel_rfl) rfl rfl rfl (⟨⟨_, rfl, rfl, rfl⟩, ⟨_, rfl, rfl, rfl⟩, trivial⟩) (⟨⟨_, _, rfl, rfl, rfl, rfl, id, rfl⟩, ⟨_, _, rfl, rfl, rfl, rfl, id, rfl⟩, trivial⟩) (⟨⟨500, _, rfl, rfl, rfl, rfl, .inr ⟨rfl, _, rfl, rfl⟩⟩, ⟨1008, _, rfl, rfl, rfl, rfl, .inl rfl⟩, trivial⟩) (⟨(fun _ => ⟨1016, _, rfl, rfl⟩), (fun _ => ⟨1072, _, rfl, rfl⟩), trivial⟩) rfl) trivial rfl rfl ?_
 refine .q rfl (ap_idx_arr Tryz.underlying57 inf9.sz rfl rfl rfl (by first | omega | (skip; omega) | (skip; omega) | assumption | (simp; done))) trivial ?_
 refine .q rfl (op_load Tryz.underlying9 rfl rfl rfl rfl (by show 1 < 2; decide)) trivial ?_
 refine .as (.str i1) rfl ?_
 refine .a rfl (op_call (U := [(1016, some ⟨.agg [.ptr 1016 0, .sl 1128 0 ((4 + l0.length) + (4 + l1.length) + (4 + i0.length) + (4 + i1.length)) 1], 82, true⟩), (1128, some ⟨.aggB ((((textB l0) ++ textB l1) ++ textB i0) ++ textB i1), 5, true⟩), (1104, none)]) [(500, 1016), (501, 1104)] [(1128, 1008)] (text2_ev i1 (by omega) ((((textB l0) ++ textB l1) ++ textB i0)) ((4 + l0.length) + (4 + l1.length) + (4 + i0.length)) (by first | exact hn | (simp [length_textB]; done) | (simp [length_textB]; omega) | omega | decide +kernel) (by omega)) Tryz.func48 (by kernel_rfl) rfl rfl rfl (⟨⟨_, rfl, rfl, rfl⟩, ⟨_, rfl, rfl, rfl⟩, trivial⟩) (⟨⟨_, _, rfl, rfl, rfl, rfl, id, rfl⟩, ⟨_, _, rfl, rfl, rfl, rfl, id, rfl⟩, trivial⟩) (⟨⟨500, _, rfl, rfl, rfl, rfl, .inr ⟨rfl, _, rfl, rfl⟩⟩, ⟨1008, _, rfl, rfl, rfl, rfl, .inl rfl⟩, trivial⟩) (⟨(fun _ => ⟨1016, _, rfl, rfl⟩), (fun _ => ⟨1104, _, rfl, rfl⟩), trivial⟩) rfl) trivial rfl rfl ?_
 refine .nil ?_
 show Ev _ _ _ _ _
 refine .region ?_
 refine .q (op_addI rfl rfl ⟨by omega, by omega⟩) trivial rfl ?_
 refine .as (.i64 2) rfl ?_
 refine .q (op_move rfl) trivial rfl ?_
 refine .nil ?_
 show Ev _ _ _ _ _
 refine .seq ?_
 refine .region ?_
 refine .q (op_cmpI rfl rfl rfl) trivial rfl ?_
 refine .nil ?_
 show Ev _ _ _ _ _
 refine .seq ?_
 refine .cond_false rfl (rfl) ?_
 refine .exit ?_
 show Ev _ _ _ _ _
 refine .seq ?_
 refine .region ?_
 refine .q (op_fieldAddr (m := 0) Tryz.underlying60 rfl (by kernel_rfl) rfl) trivial rfl ?_
 refine .as (.ptr 1000 4) rfl ?_
 refine .q (op_load Tryz.underlying9 rfl rfl rfl rfl (by show 4 < 101; decide)) trivial rfl ?_
 refine .as (.str h) rfl ?_
 refine .a (op_call (U := [(1016, some ⟨.agg [.ptr 1016 0, .sl 1136 0 ((4 + l0.length) + (4 + l1.length) + (4 + i0.length) + (4 + i1.length) + (4 + h.length)) 1], 82, true⟩), (1136, some ⟨.aggB (((((textB l0) ++ textB l1) ++ textB i0) ++ textB i1) ++ textB h), 5, true⟩), (1128, none)]) [(500, 1016), (501, 1128)] [(1136, 1008)] (text2_ev h (by omega) (((((textB l0) ++ textB l1) ++ textB i0) ++ textB i1)) ((4 + l0.length) + (4 + l1.length) + (4 + i0.length) + (4 + i1.length)) (by first | exact hn | (simp [length_textB]; done) | (simp [length_textB]; omega) | omega | decide +kernel) (by omega)) Tryz.func48 (by kernel_rfl) rfl rfl rfl (⟨⟨_, rfl, rfl, rfl⟩, ⟨_, rfl, rfl, rfl⟩, trivial⟩) (⟨⟨_, _, rfl, rfl, rfl, rfl, id, rfl⟩, ⟨_, _, rfl, rfl, rfl, rfl, id, rfl⟩, trivial⟩) (⟨⟨500, _, rfl, rfl, rfl, rfl, .inr ⟨rfl, _, rfl, rfl⟩⟩, ⟨1008, _, rfl, rfl, rfl, rfl, .inl rfl⟩, trivial⟩) (⟨(fun _ => ⟨1016, _, rfl, rfl⟩), (fun _ => ⟨1128, _, rfl, rfl⟩), trivial⟩) rfl) trivial rfl ?_
 refine .nil ?_
 show Ev _ _ _ _ _
 refine .seq ?_
 refine .seq ?_
 refine .region ?_
 refine .q (op_fieldAddr (m := 63) Tryz.underlying60 rfl (by kernel_rfl) rfl) trivial rfl ?_
 refine .as (.ptr 1000 5) rfl ?_
 refine .q (op_loadPart (m := 64) (r := .aggB (p0 ++ p1)) (cs := (p0 ++ p1).map .u8) Tryz.underlying58 rfl (by kernel_rfl) rfl rfl rfl (by rw [List.length_map, List.length_append, hp0, hp1]) (by rw [kX_take p0 p1 hp0 hp1]; rfl) (show 5 + 64 ≤ 101 by decide)) trivial rfl ?_
 refine .q (op_move rfl) trivial rfl ?_
 refine .nil ?_
 show Ev _ _ _ _ _
 refine .block ?_
 refine Ev.rounds 3 ?_
 show Ev _ _ _ _ _
 refine .seq ?_
 refine .region ?_
 refine .q (op_cmpI rfl rfl rfl) trivial rfl ?_
 refine .nil ?_
 show Ev _ _ _ _ _
 refine .seq ?_
 refine .cond_true rfl (rfl) ?_
 refine .skip ?_
 show Ev _ _ _ _ _
 refine .seq ?_
 refine .block ?_
 refine .seq ?_
 refine .region ?_
 refine .q (op_index_rowS (z := 32) (i := 0) Tryz.underlying58 Tryz.underlying24 rfl (by kernel_rfl) rfl rfl rfl rfl (by simp only [List.length_map, List.length_append]; omega) (by decide)) trivial rfl ?_
 refine .asR (.aggB p0) (fun E y hq => rel_part0 p0 p1 hp0 hp1 hq) ?_
 refine .a (op_allocRow zero24 rel_zero24 rfl) trivial rfl ?_
 refine .w (op_storeRow sz24 rfl rfl rfl rfl rfl (by first | (simp only [AV.len]; done) | assumption | (simp only [AV.ren, AV.len, length_bsN, List.length_replicate]; first | assumption | omega) | omega) (by first | (simp only [AV.len, List.length_replicate]; done) | assumption | (simp only [AV.ren, AV.len, length_bsN, List.length_replicate]; first | assumption | omega) | omega)) trivial rfl ?_
 refine .nil ?_
 show Ev _ _ _ _ _
 refine .region ?_
 refine .q (ap_slice_arr_hi Tryz.underlying24 inf5.sz rfl rfl (by first | decide | (show 0 + 32 * 1 ≤ p0.length; omega) | omega) (by decide) rfl (by first | decide | (show 0 + 32 * 1 ≤ p0.length; omega) | omega)) trivial rfl ?_
 refine .as (.sl 1144 0 p0.length 1) (slice_as2 rfl (by omega)) ?_
 refine .q (op_bytes_str Tryz.underlying33 Tryz.underlying5 Tryz.underlying9 rfl rfl rfl (by first | omega | (simp only [AV.len]; omega))) trivial rfl ?_
 refine .as (.str p0) (congrArg AV.str (by simp)) ?_
 refine .a (op_call (U := [(1016, some ⟨.agg [.ptr 1016 0, .sl 1152 0 ((4 + l0.length) + (4 + l1.length) + (4 + i0.length) + (4 + i1.length) + (4 + h.length) + (4 + p0.length)) 1], 82, true⟩), (1152, some ⟨.aggB ((((((textB l0) ++ textB l1) ++ textB i0) ++ textB i1) ++ textB h) ++ textB p0), 5, true⟩), (1136, none)]) [(500, 1016), (501, 1136)] [(1152, 1008)] (text2_ev p0 (by omega) ((((((textB l0) ++ textB l1) ++ textB i0) ++ textB i1) ++ textB h)) ((4 + l0.length) + (4 + l1.length) + (4 + i0.length) + (4 + i1.length) + (4 + h.length)) (by first | exact hn | (simp [length_textB]; done) | (simp [length_textB]; omega) | omega | decide +kernel) (by omega)) Tryz.func48 (by kernel_rfl) rfl rfl rfl (⟨⟨_, rfl, rfl, rfl⟩, ⟨_, rfl, rfl, rfl⟩, trivial⟩) (⟨⟨_, _, rfl, rfl, rfl, rfl, id, rfl⟩, ⟨_, _, rfl, rfl, rfl, rfl, id, rfl⟩, trivial⟩) (⟨⟨500, _, rfl, rfl, rfl, rfl, .inr ⟨rfl, _, rfl, rfl⟩⟩, ⟨1008, _, rfl, rfl, rfl, rfl, .inl rfl⟩, trivial⟩) (⟨(fun _ => ⟨1016, _, rfl, rfl⟩), (fun _ => ⟨1136, _, rfl, rfl⟩), trivial⟩) rfl) trivial rfl ?_
 refine .nil ?_
 show Ev _ _ _ _ _
 refine .region ?_
 refine .q (op_addI rfl rfl ⟨by omega, by omega⟩) trivial rfl ?_
 refine .as (.i64 1) rfl ?_
 refine .q (op_move rfl) trivial rfl ?_
 refine .nil ?_
 show Ev _ _ _ _ _
 refine .seq ?_
 refine .region ?_
 refine .q (op_cmpI rfl rfl rfl) trivial rfl ?_
 refine .nil ?_
 show Ev _ _ _ _ _
 refine .seq ?_
 refine .cond_true rfl (rfl) ?_
 refine .skip ?_
 show Ev _ _ _ _ _
 refine .seq ?_
 refine .block ?_
 refine .seq ?_
 refine .region ?_
 refine .q (op_index_rowS (z := 32) (i := 1) Tryz.underlying58 Tryz.underlying24 rfl (by kernel_rfl) rfl rfl rfl rfl (by simp only [List.length_map, List.length_append]; omega) (by decide)) trivial rfl ?_
 refine .asR (.aggB p1) (fun E y hq => rel_part1 p0 p1 hp0 hp1 hq) ?_
 refine .a (op_allocRow zero24 rel_zero24 rfl) trivial rfl ?_
 refine .w (op_storeRow sz24 rfl rfl rfl rfl rfl (by first | (simp only [AV.len]; done) | assumption | (simp only [AV.ren, AV.len, length_bsN, List.length_replicate]; first | assumption | omega) | omega) (by first | (simp only [AV.len, List.length_replicate]; done) | assumption | (simp only [AV.ren, AV.len, length_bsN, List.length_replicate]; first | assumption | omega) | omega)) trivial rfl ?_
 refine .nil ?_
 show Ev _ _ _ _ _
 refine .region ?_
 refine .q (ap_slice_arr_hi Tryz.underlying24 inf5.sz rfl rfl (by first | decide | (show 0 + 32 * 1 ≤ p1.length; omega) | omega) (by decide) rfl (by first | decide | (show 0 + 32 * 1 ≤ p1.length; omega) | omega)) trivial rfl ?_
 refine .as (.sl 1160 0 p1.length 1) (slice_as2 rfl (by omega)) ?_
 refine .q (op_bytes_str Tryz.underlying33 Tryz.underlying5 Tryz.underlying9 rfl rfl rfl (by first | omega | (simp only [AV.len]; omega))) trivial rfl ?_
 refine .as (.str p1) (congrArg AV.str (by simp)) ?_
 refine .a (op_call (U := [(1016, some ⟨.agg [.ptr 1016 0, .sl 1168 0 ((4 + l0.length) + (4 + l1.length) + (4 + i0.length) + (4 + i1.length) + (4 + h.length) + (4 + p0.length) + (4 + p1.length)) 1], 82, true⟩), (1168, some ⟨.aggB (((((((textB l0) ++ textB l1) ++ textB i0) ++ textB i1) ++ textB h) ++ textB p0) ++ textB p1), 5, true⟩), (1152, none)]) [(500, 1016), (501, 1152)] [(1168, 1008)] (text2_ev p1 (by omega) (((((((textB l0) ++ textB l1) ++ textB i0) ++ textB i1) ++ textB h) ++ textB p0)) ((4 + l0.length) + (4 + l1.length) + (4 + i0.length) + (4 + i1.length) + (4 + h.length) + (4 + p0.length)) (by first | exact hn | (simp [length_textB]; done) | (simp [length_textB]; omega) | omega | decide +kernel) (by omega)) Tryz.func48 (by kernel_rfl) rfl rfl rfl (⟨⟨_, rfl, rfl, rfl⟩, ⟨_, rfl, rfl, rfl⟩, trivial⟩) (⟨⟨_, _, rfl, rfl, rfl, rfl, id, rfl⟩, ⟨_, _, rfl, rfl, rfl, rfl, id, rfl⟩, trivial⟩) (⟨⟨500, _, rfl, rfl, rfl, rfl, .inr ⟨rfl, _, rfl, rfl⟩⟩, ⟨1008, _, rfl, rfl, rfl, rfl, .inl rfl⟩, trivial⟩) (⟨(fun _ => ⟨1016, _, rfl, rfl⟩), (fun _ => ⟨1152, _, rfl, rfl⟩), trivial⟩) rfl) trivial rfl ?_
 refine .nil ?_
 show Ev _ _ _ _ _
 refine .region ?_
 refine .q (op_addI rfl rfl ⟨by omega, by omega⟩) trivial rfl ?_
 refine .as (.i64 2) rfl ?_
 refine .q (op_move rfl) trivial rfl ?_
 refine .nil ?_
 show Ev _ _ _ _ _
 refine .seq ?_
 refine .region ?_
 refine .q (op_cmpI rfl rfl rfl) trivial rfl ?_
 refine .nil ?_
 show Ev _ _ _ _ _
 refine .seq ?_
 refine .cond_false rfl (rfl) ?_
 refine .exit ?_
 show Ev _ _ _ _ _
 refine .seq ?_
 refine .drawnF [[], [], [1], [0, 1, 2], [0, 1, 2, 3], [0, 1, 2, 3, 4], [0, 1, 2, 3, 4, 5]] [0, 2, 3, 4, 5, 6] [6] [(0, ([], [1016, 1168])), (2, ([1000], [])), (3, ([], []))] (by kernel_rfl) (by kernel_rfl) rfl ?_
 show DK _ [0, 1, 2, 3, 4, 5, 6] _ _ _
 refine .a rfl (op_call (U := [(1168, some ⟨.aggB (((((((textB l0) ++ textB l1) ++ textB i0) ++ textB i1) ++ textB h) ++ textB p0) ++ textB p1), (frz + 5), false⟩)]) [(500, 1016), (501, 1168)] [] (bytes2_ev (((((((textB l0) ++ textB l1) ++ textB i0) ++ textB i1) ++ textB h) ++ textB p0) ++ textB p1) ((4 + l0.length) + (4 + l1.length) + (4 + i0.length) + (4 + i1.length) + (4 + h.length) + (4 + p0.length) + (4 + p1.length)) (by simp only [List.length_append, length_textB]) (by omega) (by omega)) Tryz.func37 (by kernel_rfl) rfl rfl rfl (⟨⟨_, rfl, rfl, rfl⟩, trivial⟩) (⟨⟨_, _, rfl, rfl, rfl, rfl, (fun h => by cases h), rfl⟩, ⟨_, _, rfl, rfl, rfl, rfl, id, rfl⟩, trivial⟩) (⟨⟨501, _, rfl, rfl, rfl, rfl, .inr ⟨rfl, _, rfl, rfl⟩⟩, trivial⟩) (⟨(fun h => by cases h), (fun _ => ⟨1168, _, rfl, rfl⟩), trivial⟩) rfl) trivial rfl rfl ?_
 refine .q rfl (op_fieldAddr (m := 31) Tryz.underlying60 rfl (by kernel_rfl) rfl) trivial ?_
 refine .as (.ptr 1000 69) rfl ?_
 refine .q rfl (op_loadPart (m := 32) (r := .aggB sec) (cs := sec.map .u8) Tryz.underlying24 rfl (by kernel_rfl) rfl rfl rfl (by rw [List.length_map, hsec]) (by rw [← kX_eq hsec]; rfl) (show 69 + 32 ≤ 101 by decide)) trivial ?_
 refine .q rfl (op_call (U := []) [] [] (number_ev sec hsec) Tryz.func50 (by kernel_rfl) rfl rfl rfl (⟨⟨_, rfl, rfl, rfl⟩, trivial⟩) (trivial) (trivial) (trivial) rfl) trivial ?_
 refine .a rfl (ap_build (us := [_, _]) (c := .aggS [_, _]) Tryz.underlying54 inf9 rfl (by decide) (by decide) ⟨rfl, rfl, rfl, rfl, rfl, rfl, trivial⟩ rfl) trivial rfl rfl ?_
 refine .q rfl (op_call (U := []) [(500, 1208)] [] (sum256_ev [(((((((textB l0) ++ textB l1) ++ textB i0) ++ textB i1) ++ textB h) ++ textB p0) ++ textB p1), bigB sec] 9 ek (tot2 _ _ (by simp only [List.length_append, length_textB]; omega)) (by simp)) Tryz.func49 (by kernel_rfl) rfl rfl rfl (⟨⟨_, rfl, rfl, rfl⟩, trivial⟩) (⟨⟨_, ⟨.aggS [(((((((textB l0) ++ textB l1) ++ textB i0) ++ textB i1) ++ textB h) ++ textB p0) ++ textB p1), bigB sec], 9, true⟩, rfl, by kernel_rfl, rfl, rfl, (fun h => by cases h), rfl⟩, ⟨_, _, rfl, rfl, rfl, rfl, (fun h => by cases h), rfl⟩, trivial⟩) (trivial) (⟨(fun h => by cases h), (fun h => by cases h), trivial⟩) rfl) trivial ?_
 refine .as (.aggB (hshP l0 l1 i0 i1 h p0 p1 sec)) (congrArg AV.aggB (by rw [flat2]; rfl)) ?_
 refine .w rfl (op_storeRow sz24 rfl rfl rfl rfl rfl (by first | exact List.length_replicate | exact length_hshP _ _ _ _ _ _ _ _) (by first | exact List.length_replicate | exact length_hshP _ _ _ _ _ _ _ _)) trivial rfl rfl ?_
 refine .nil ?_
 show Ev _ _ _ _ _
 refine .ret ?_
 show RetOk _ _ _ _ _ _ _
 exact retc1 rfl (.inl rfl) ⟨_, _, _, _, rfl, rfl, rfl, rfl, (length_hshP _ _ _ _ _ _ _ _), Tryz.underlying24, rfl, sz24⟩ trivial
end Go.Proofs.YtdmlpblaelfdmaaGreatDoor
