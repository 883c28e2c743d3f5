/-
  Texts of this claim.
-/
import Derived.Test.YtenocbhlbgcnfaaDoorGTS
import Derived.Test.YtenocbhlbgcnfaaDoorGT5
import Derived.Test.YtenocbhlbgcnfaaDoorGT3
import Derived.Test.YtenocbhlbgcnfaaDoorGTW
namespace Go.Proofs.YtenocbhlbgcnfaaDoor
open Go.RowKit
section
variable {P : Program} {T : Nat → Option AV} {H : Hp} {nm : Nat} {wr : Bool} {d : Option Tmp} {ty t e : TypeId} {ps : String} {af : Array Edge} {gd : Option (Nat × Bool)} {x : Operand} {n z p : Nat} {cs : List AV}
theorem op_slice_fslT {lo hi : Option Operand} (ht : P.underlying t = some (.slice e)) (hz : (P.info? e).map (·.size) = some z) (hx : aev T x = some (.fsl cs n z)) (hl : bnd T 0 lo p) (hh : bnd T n hi n) (h1 : p ≤ n) (hcs : cs.length = n * z) (hp : 0 < p) :
    OpSem P T H ⟨d, .slice t x lo hi none, ty, ps, af, gd⟩ nm wr (.fsl (cs.drop (p * z)) (n - p) z) [] := by
  rcases Nat.lt_or_ge p n with h3 | h3
  · have h := op_slice_fsl (H := H) (nm := nm) (wr := wr) (d := d) (ty := ty) (ps := ps) (af := af) (gd := gd) ht hz hx hl hh h1 (Nat.le_refl _) h3
    have e1 : (cs.drop (p * z)).take ((n - p) * z) = cs.drop (p * z) := List.take_of_length_le (by rw [List.length_drop, hcs, ← Nat.sub_mul]; exact Nat.le_refl _)
    rw [e1] at h
    exact h
  · obtain rfl : p = n := by omega
    have e1 : cs.drop (p * z) = [] := List.drop_eq_nil_of_le (by rw [hcs]; exact Nat.le_refl _)
    rw [e1, Nat.sub_self]
    exact .quiet fun E a w hop => by
      rcases (hop x (by simp [Op.operands]) _ hx).fsl_inv with ⟨L, g, lc, o, c, s, g1, g2, g3, g4, g5, g6, g7, g8, g9⟩ | ⟨ad, g1, g2, g3⟩
      · have hb := run_sliceBounds_ok (P := P) (sl := true) (cap := c) (fun q hq u hu => hop q (mem_slice q hq) u hu) hl hh (Nat.le_refl _) (by omega) w
        by_cases hc : c = p
        · subst hc
          refine ⟨.slice (some ⟨lc, o, none⟩) 0 0, ?_, .fsl0 _ _⟩
          simp [execOp, g9, Instr.sliceAt, Instr.slice, run_underlying ht, hb, run_sizeOf_is hz]
        · have e3 : (c - p) * z + p * z = c * z := by rw [← Nat.add_mul]; congr 1; omega
          refine ⟨.slice (some ⟨lc, o + p * z, none⟩) 0 (c - p), ?_, .fsl _ _ _ L (fun k => g k) lc (o + p * z) (c - p) s g1 (by simp) (fun x hx => by simp at hx) (fun k hk => by simp at hk) (fun k v hk => by simp at hk) (Nat.zero_le _) (by omega) (by omega)⟩
          simp [execOp, g9, Instr.sliceAt, Instr.slice, run_underlying ht, hb, run_sizeOf_is hz, hc, add_at]
      · omega
end
end Go.Proofs.YtenocbhlbgcnfaaDoor
namespace Go.Proofs.YtenocbhlbgcnfaaDoor
open Go.RowKit
/-- A message's cells, all lists still. -/
def rowP (k : Int) (us : List UInt32) (ss : List (List UInt8)) (ns : List (List (List UInt8))) (bs : List Bool) : AV := .agg [.i64 k, .fsl (us.map .u32) us.length 1, .fsl (ss.map .str) ss.length 1, .fsl (ns.map .dsl) ns.length 1, .fsl (bs.map .bool) bs.length 1]
theorem fsl_tail {α : Type} (f : α → AV) (l : List α) : (AV.fsl ((l.map f).drop (1 * 1)) (l.length - 1) 1) = .fsl ((l.drop 1).map f) (l.drop 1).length 1 := by
  rw [Nat.mul_one, ← List.map_drop, List.length_drop]
theorem get_head {α : Type} (f : α → AV) {l : List α} (d : α) (h : 0 < l.length) : ((l.map f).drop (0 * 1))[0]? = some (f (l.getD 0 d)) := by
  rw [Nat.zero_mul, List.drop_zero, List.getElem?_map, List.getElem?_eq_getElem h]
  simp [List.getD_eq_getElem?_getD, h]
set_option maxRecDepth 100000 in
theorem next_u (k : Int) (us : List UInt32) (ss : List (List UInt8)) (ns : List (List (List UInt8))) (bs : List Bool) (h : 0 < us.length) : Meets Tryd.prog 41 [.ptr 500 1] [(500, some ⟨rowP k us ss ns bs, 30, true⟩)] (.u32 (us.getD 0 0)) [(500, some ⟨rowP k (us.drop 1) ss ns bs, 30, true⟩)] := by
 refine meets_of_ev (nt := 16) Tryd.func41 rfl rfl (Nat.le_of_ble_eq_true rfl) ?_
 refine .seq ?_
 refine .region ?_
 refine .q (op_assign rfl) trivial rfl ?_
 refine .nil ?_
 show Ev _ _ _ _ _
 refine .seq ?_
 refine .region ?_
 refine .q (op_move rfl) trivial rfl ?_
 refine .q (op_nilCheck rfl) trivial rfl ?_
 refine .q (op_load Tryd.underlying22 rfl rfl rfl rfl (by show 1 < 5; decide)) trivial rfl ?_
 refine .q (op_indexAddr_fsl (i := 0) (z := 1) Tryd.underlying22 inf42.sz (by decide) rfl rfl rfl h) trivial rfl ?_
 refine .q (op_load_fptr Tryd.underlying42 rfl rfl (get_head AV.u32 0 h)) trivial rfl ?_
 refine .q (op_assign rfl) trivial rfl ?_
 refine .nil ?_
 show Ev _ _ _ _ _
 refine .seq ?_
 refine .region ?_
 refine .q (op_move rfl) trivial rfl ?_
 refine .q (op_move rfl) trivial rfl ?_
 refine .q (op_nilCheck rfl) trivial rfl ?_
 refine .q (op_load Tryd.underlying22 rfl rfl rfl rfl (by show 1 < 5; decide)) trivial rfl ?_
 refine .q (op_slice_fslT (p := 1) (z := 1) Tryd.underlying22 inf42.sz rfl (bnd_some rfl rfl) rfl h (by rw [List.length_map, Nat.mul_one]) (by decide)) trivial rfl ?_
 refine .as (.fsl ((us.drop 1).map .u32) (us.drop 1).length 1) (fsl_tail AV.u32 us) ?_
 refine .q (op_nilCheck rfl) trivial rfl ?_
 refine .w (op_store (by kernel_rfl) rfl rfl rfl rfl rfl (by show 1 < 5; decide)) trivial rfl ?_
 refine .nil ?_
 show Ev _ _ _ _ _
 refine .seq ?_
 refine .region ?_
 refine .q (op_move rfl) trivial rfl ?_
 refine .q (op_assign rfl) trivial rfl ?_
 refine .nil ?_
 show Ev _ _ _ _ _
 refine .ret ?_
 show RetOk _ _ _ _ _ _ _
 exact ret1v rfl (.inl rfl) rfl rfl ⟨rfl, trivial⟩
set_option maxRecDepth 100000 in
theorem next_s (k : Int) (us : List UInt32) (ss : List (List UInt8)) (ns : List (List (List UInt8))) (bs : List Bool) (h : 0 < ss.length) : Meets Tryd.prog 47 [.ptr 500 2] [(500, some ⟨rowP k us ss ns bs, 30, true⟩)] (.str (ss.getD 0 [])) [(500, some ⟨rowP k us (ss.drop 1) ns bs, 30, true⟩)] := by
 refine meets_of_ev (nt := 16) Tryd.func47 rfl rfl (Nat.le_of_ble_eq_true rfl) ?_
 refine .seq ?_
 refine .region ?_
 refine .q (op_assign rfl) trivial rfl ?_
 refine .nil ?_
 show Ev _ _ _ _ _
 refine .seq ?_
 refine .region ?_
 refine .q (op_move rfl) trivial rfl ?_
 refine .q (op_nilCheck rfl) trivial rfl ?_
 refine .q (op_load Tryd.underlying23 rfl rfl rfl rfl (by show 2 < 5; decide)) trivial rfl ?_
 refine .q (op_indexAddr_fsl (i := 0) (z := 1) Tryd.underlying23 inf9.sz (by decide) rfl rfl rfl h) trivial rfl ?_
 refine .q (op_load_fptr Tryd.underlying9 rfl rfl (get_head AV.str [] h)) trivial rfl ?_
 refine .q (op_assign rfl) trivial rfl ?_
 refine .nil ?_
 show Ev _ _ _ _ _
 refine .seq ?_
 refine .region ?_
 refine .q (op_move rfl) trivial rfl ?_
 refine .q (op_move rfl) trivial rfl ?_
 refine .q (op_nilCheck rfl) trivial rfl ?_
 refine .q (op_load Tryd.underlying23 rfl rfl rfl rfl (by show 2 < 5; decide)) trivial rfl ?_
 refine .q (op_slice_fslT (p := 1) (z := 1) Tryd.underlying23 inf9.sz rfl (bnd_some rfl rfl) rfl h (by rw [List.length_map, Nat.mul_one]) (by decide)) trivial rfl ?_
 refine .as (.fsl ((ss.drop 1).map .str) (ss.drop 1).length 1) (fsl_tail AV.str ss) ?_
 refine .q (op_nilCheck rfl) trivial rfl ?_
 refine .w (op_store (by kernel_rfl) rfl rfl rfl rfl rfl (by show 2 < 5; decide)) trivial rfl ?_
 refine .nil ?_
 show Ev _ _ _ _ _
 refine .seq ?_
 refine .region ?_
 refine .q (op_move rfl) trivial rfl ?_
 refine .q (op_assign rfl) trivial rfl ?_
 refine .nil ?_
 show Ev _ _ _ _ _
 refine .ret ?_
 show RetOk _ _ _ _ _ _ _
 exact ret1v rfl (.inl rfl) rfl rfl ⟨rfl, trivial⟩
set_option maxRecDepth 100000 in
theorem next_n (k : Int) (us : List UInt32) (ss : List (List UInt8)) (ns : List (List (List UInt8))) (bs : List Bool) (h : 0 < ns.length) : Meets Tryd.prog 45 [.ptr 500 3] [(500, some ⟨rowP k us ss ns bs, 30, true⟩)] (.dsl (ns.getD 0 [])) [(500, some ⟨rowP k us ss (ns.drop 1) bs, 30, true⟩)] := by
 refine meets_of_ev (nt := 16) Tryd.func45 rfl rfl (Nat.le_of_ble_eq_true rfl) ?_
 refine .seq ?_
 refine .region ?_
 refine .q (op_assign rfl) trivial rfl ?_
 refine .nil ?_
 show Ev _ _ _ _ _
 refine .seq ?_
 refine .region ?_
 refine .q (op_move rfl) trivial rfl ?_
 refine .q (op_nilCheck rfl) trivial rfl ?_
 refine .q (op_load Tryd.underlying24 rfl rfl rfl rfl (by show 3 < 5; decide)) trivial rfl ?_
 refine .q (op_indexAddr_fsl (i := 0) (z := 1) Tryd.underlying24 inf23.sz (by decide) rfl rfl rfl h) trivial rfl ?_
 refine .q (op_load_fptr Tryd.underlying23 rfl rfl (get_head AV.dsl [] h)) trivial rfl ?_
 refine .q (op_assign rfl) trivial rfl ?_
 refine .nil ?_
 show Ev _ _ _ _ _
 refine .seq ?_
 refine .region ?_
 refine .q (op_move rfl) trivial rfl ?_
 refine .q (op_move rfl) trivial rfl ?_
 refine .q (op_nilCheck rfl) trivial rfl ?_
 refine .q (op_load Tryd.underlying24 rfl rfl rfl rfl (by show 3 < 5; decide)) trivial rfl ?_
 refine .q (op_slice_fslT (p := 1) (z := 1) Tryd.underlying24 inf23.sz rfl (bnd_some rfl rfl) rfl h (by rw [List.length_map, Nat.mul_one]) (by decide)) trivial rfl ?_
 refine .as (.fsl ((ns.drop 1).map .dsl) (ns.drop 1).length 1) (fsl_tail AV.dsl ns) ?_
 refine .q (op_nilCheck rfl) trivial rfl ?_
 refine .w (op_store (by kernel_rfl) rfl rfl rfl rfl rfl (by show 3 < 5; decide)) trivial rfl ?_
 refine .nil ?_
 show Ev _ _ _ _ _
 refine .seq ?_
 refine .region ?_
 refine .q (op_move rfl) trivial rfl ?_
 refine .q (op_assign rfl) trivial rfl ?_
 refine .nil ?_
 show Ev _ _ _ _ _
 refine .ret ?_
 show RetOk _ _ _ _ _ _ _
 exact ret1v rfl (.inl rfl) rfl rfl ⟨rfl, trivial⟩
set_option maxRecDepth 100000 in
theorem next_b (k : Int) (us : List UInt32) (ss : List (List UInt8)) (ns : List (List (List UInt8))) (bs : List Bool) (h : 0 < bs.length) : Meets Tryd.prog 43 [.ptr 500 4] [(500, some ⟨rowP k us ss ns bs, 30, true⟩)] (.bool (bs.getD 0 false)) [(500, some ⟨rowP k us ss ns (bs.drop 1), 30, true⟩)] := by
 refine meets_of_ev (nt := 16) Tryd.func43 rfl rfl (Nat.le_of_ble_eq_true rfl) ?_
 refine .seq ?_
 refine .region ?_
 refine .q (op_assign rfl) trivial rfl ?_
 refine .nil ?_
 show Ev _ _ _ _ _
 refine .seq ?_
 refine .region ?_
 refine .q (op_move rfl) trivial rfl ?_
 refine .q (op_nilCheck rfl) trivial rfl ?_
 refine .q (op_load Tryd.underlying25 rfl rfl rfl rfl (by show 4 < 5; decide)) trivial rfl ?_
 refine .q (op_indexAddr_fsl (i := 0) (z := 1) Tryd.underlying25 inf4.sz (by decide) rfl rfl rfl h) trivial rfl ?_
 refine .q (op_load_fptr Tryd.underlying4 rfl rfl (get_head AV.bool false h)) trivial rfl ?_
 refine .q (op_assign rfl) trivial rfl ?_
 refine .nil ?_
 show Ev _ _ _ _ _
 refine .seq ?_
 refine .region ?_
 refine .q (op_move rfl) trivial rfl ?_
 refine .q (op_move rfl) trivial rfl ?_
 refine .q (op_nilCheck rfl) trivial rfl ?_
 refine .q (op_load Tryd.underlying25 rfl rfl rfl rfl (by show 4 < 5; decide)) trivial rfl ?_
 refine .q (op_slice_fslT (p := 1) (z := 1) Tryd.underlying25 inf4.sz rfl (bnd_some rfl rfl) rfl h (by rw [List.length_map, Nat.mul_one]) (by decide)) trivial rfl ?_
 refine .as (.fsl ((bs.drop 1).map .bool) (bs.drop 1).length 1) (fsl_tail AV.bool bs) ?_
 refine .q (op_nilCheck rfl) trivial rfl ?_
 refine .w (op_store (by kernel_rfl) rfl rfl rfl rfl rfl (by show 4 < 5; decide)) trivial rfl ?_
 refine .nil ?_
 show Ev _ _ _ _ _
 refine .seq ?_
 refine .region ?_
 refine .q (op_move rfl) trivial rfl ?_
 refine .q (op_assign rfl) trivial rfl ?_
 refine .nil ?_
 show Ev _ _ _ _ _
 refine .ret ?_
 show RetOk _ _ _ _ _ _ _
 exact ret1v rfl (.inl rfl) rfl rfl ⟨rfl, trivial⟩
set_option maxRecDepth 100000 in
theorem put_u (k : Int) (us : List UInt32) (ss : List (List UInt8)) (ns : List (List (List UInt8))) (bs : List Bool) (w : List UInt8) (n : Nat) (hn : n = w.length) (hb : n ≤ 500000000) (h : 0 < us.length) : Meets Tryd.prog 24 [.ptr 500 0, .u8 117, .ptr 510 0] [(500, some ⟨.agg [.ptr 500 0, .sl 501 0 (n) 1], 56, true⟩), (501, some ⟨.aggB w, 5, true⟩), (510, some ⟨rowP k us ss ns bs, 30, true⟩)] (.tup []) [(500, some ⟨.agg [.ptr 500 0, .sl 1008 0 (n + 4) 1], 56, true⟩), (1008, some ⟨.aggB (w ++ numB (us.getD 0 0).toUInt64 4 4), 5, true⟩), (510, some ⟨rowP k (us.drop 1) ss ns bs, 30, true⟩)] := by
 refine meets_of_ev (nt := 52) Tryd.func24 rfl rfl (Nat.le_of_ble_eq_true rfl) ?_
 refine .seq ?_
 refine .region ?_
 refine .q (op_move rfl) trivial rfl ?_
 refine .nil ?_
 show Ev _ _ _ _ _
 refine .block ?_
 refine .seq ?_
 refine .block ?_
 refine .seq ?_
 refine .block ?_
 refine .seq ?_
 refine .block ?_
 refine .seq ?_
 refine .block ?_
 refine .seq ?_
 refine .block ?_
 refine .seq ?_
 refine .seq ?_
 refine .seq ?_
 refine .region ?_
 refine .q (op_bin8 rfl rfl rfl) trivial rfl ?_
 refine .q (op_assign rfl) trivial rfl ?_
 refine .nil ?_
 show Ev _ _ _ _ _
 refine .cond_true rfl (rfl) ?_
 refine .exit ?_
 show Ev _ _ _ _ _
 refine .seq ?_
 refine .region ?_
 refine .q (op_move rfl) trivial rfl ?_
 refine .q (op_move rfl) trivial rfl ?_
 refine .q (op_nilCheck rfl) trivial rfl ?_
 refine .q (op_fieldAddr (m := 0) Tryd.underlying30 rfl (by kernel_rfl) rfl) trivial rfl ?_
 refine .as (.ptr 510 1) rfl ?_
 refine .a (op_call (U := [(510, some ⟨rowP k (us.drop 1) ss ns bs, 30, true⟩)]) [(500, 510)] [] (next_u k us ss ns bs h) Tryd.func41 (by kernel_rfl) rfl rfl rfl (⟨⟨_, rfl, rfl, rfl⟩, trivial⟩) (⟨⟨_, _, rfl, rfl, rfl, rfl, id, rfl⟩, trivial⟩) (⟨⟨500, _, rfl, rfl, rfl, rfl, .inr ⟨rfl, _, rfl, rfl⟩⟩, trivial⟩) (⟨(fun _ => ⟨510, _, rfl, rfl⟩), trivial⟩) rfl) trivial rfl ?_
 refine .a (op_call (U := [(1008, some ⟨.aggB (w ++ numB (us.getD 0 0).toUInt64 4 4), 5, true⟩), (500, some ⟨.agg [.ptr 500 0, .sl 1008 0 (n + 4) 1], 56, true⟩), (501, none)]) [(500, 500), (501, 501)] [(1008, 1000)] (u322_ev (us.getD 0 0) w n hn (by omega)) Tryd.func40 (by kernel_rfl) rfl rfl rfl (⟨⟨_, rfl, rfl, rfl⟩, ⟨_, rfl, rfl, rfl⟩, trivial⟩) (⟨⟨_, _, rfl, rfl, rfl, rfl, id, rfl⟩, ⟨_, _, rfl, rfl, rfl, rfl, id, rfl⟩, trivial⟩) (⟨⟨1000, _, rfl, rfl, rfl, rfl, .inl rfl⟩, ⟨500, _, rfl, rfl, rfl, rfl, .inr ⟨rfl, _, rfl, rfl⟩⟩, trivial⟩) (⟨(fun _ => ⟨500, _, rfl, rfl⟩), (fun _ => ⟨501, _, rfl, rfl⟩), trivial⟩) rfl) trivial rfl ?_
 refine .nil ?_
 show Ev _ _ _ _ _
 refine .exit ?_
 show RetOk _ _ _ _ _ _ _
 exact ret0 rfl (.inr rfl) ⟨rfl, rfl, rfl, trivial⟩
set_option maxRecDepth 100000 in
theorem put_b (k : Int) (us : List UInt32) (ss : List (List UInt8)) (ns : List (List (List UInt8))) (bs : List Bool) (w : List UInt8) (n : Nat) (hn : n = w.length) (hb : n ≤ 500000000) (h : 0 < bs.length) : Meets Tryd.prog 24 [.ptr 500 0, .u8 98, .ptr 510 0] [(500, some ⟨.agg [.ptr 500 0, .sl 501 0 (n) 1], 56, true⟩), (501, some ⟨.aggB w, 5, true⟩), (510, some ⟨rowP k us ss ns bs, 30, true⟩)] (.tup []) [(500, some ⟨.agg [.ptr 500 0, .sl 1008 0 (n + 1) 1], 56, true⟩), (1008, some ⟨.aggB (w ++ boolB (bs.getD 0 false)), 5, true⟩), (510, some ⟨rowP k us ss ns (bs.drop 1), 30, true⟩)] := by
 refine meets_of_ev (nt := 52) Tryd.func24 rfl rfl (Nat.le_of_ble_eq_true rfl) ?_
 refine .seq ?_
 refine .region ?_
 refine .q (op_move rfl) trivial rfl ?_
 refine .nil ?_
 show Ev _ _ _ _ _
 refine .block ?_
 refine .seq ?_
 refine .block ?_
 refine .seq ?_
 refine .block ?_
 refine .seq ?_
 refine .block ?_
 refine .seq ?_
 refine .block ?_
 refine .seq ?_
 refine .block ?_
 refine .seq ?_
 refine .seq ?_
 refine .seq ?_
 refine .region ?_
 refine .q (op_bin8 rfl rfl rfl) trivial rfl ?_
 refine .q (op_assign rfl) trivial rfl ?_
 refine .nil ?_
 show Ev _ _ _ _ _
 refine .cond_false rfl (rfl) ?_
 refine .skip ?_
 show Ev _ _ _ _ _
 refine .seq ?_
 refine .seq ?_
 refine .region ?_
 refine .q (op_bin8 rfl rfl rfl) trivial rfl ?_
 refine .q (op_assign rfl) trivial rfl ?_
 refine .nil ?_
 show Ev _ _ _ _ _
 refine .cond_true rfl (rfl) ?_
 refine .exit ?_
 show Ev _ _ _ _ _
 refine .seq ?_
 refine .region ?_
 refine .q (op_move rfl) trivial rfl ?_
 refine .q (op_move rfl) trivial rfl ?_
 refine .q (op_nilCheck rfl) trivial rfl ?_
 refine .q (op_fieldAddr (m := 0) Tryd.underlying30 rfl (by kernel_rfl) rfl) trivial rfl ?_
 refine .as (.ptr 510 4) rfl ?_
 refine .a (op_call (U := [(510, some ⟨rowP k us ss ns (bs.drop 1), 30, true⟩)]) [(500, 510)] [] (next_b k us ss ns bs h) Tryd.func43 (by kernel_rfl) rfl rfl rfl (⟨⟨_, rfl, rfl, rfl⟩, trivial⟩) (⟨⟨_, _, rfl, rfl, rfl, rfl, id, rfl⟩, trivial⟩) (⟨⟨500, _, rfl, rfl, rfl, rfl, .inr ⟨rfl, _, rfl, rfl⟩⟩, trivial⟩) (⟨(fun _ => ⟨510, _, rfl, rfl⟩), trivial⟩) rfl) trivial rfl ?_
 refine .a (op_call (U := [(1008, some ⟨.aggB (w ++ boolB (bs.getD 0 false)), 5, true⟩), (500, some ⟨.agg [.ptr 500 0, .sl 1008 0 (n + 1) 1], 56, true⟩), (501, none)]) [(500, 500), (501, 501)] [(1008, 1000)] (bool2_ev (bs.getD 0 false) w n hn (by omega)) Tryd.func42 (by kernel_rfl) rfl rfl rfl (⟨⟨_, rfl, rfl, rfl⟩, ⟨_, rfl, rfl, rfl⟩, trivial⟩) (⟨⟨_, _, rfl, rfl, rfl, rfl, id, rfl⟩, ⟨_, _, rfl, rfl, rfl, rfl, id, rfl⟩, trivial⟩) (⟨⟨1000, _, rfl, rfl, rfl, rfl, .inl rfl⟩, ⟨500, _, rfl, rfl, rfl, rfl, .inr ⟨rfl, _, rfl, rfl⟩⟩, trivial⟩) (⟨(fun _ => ⟨500, _, rfl, rfl⟩), (fun _ => ⟨501, _, rfl, rfl⟩), trivial⟩) rfl) trivial rfl ?_
 refine .nil ?_
 show Ev _ _ _ _ _
 refine .exit ?_
 show RetOk _ _ _ _ _ _ _
 exact ret0 rfl (.inr rfl) ⟨rfl, rfl, rfl, trivial⟩
set_option maxRecDepth 100000 in
theorem put_n (k : Int) (us : List UInt32) (ss : List (List UInt8)) (ns : List (List (List UInt8))) (bs : List Bool) (w : List UInt8) (n : Nat) (hn : n = w.length) (hb : n ≤ 500000000) (h : 0 < ns.length) (h1 : (ns.getD 0 []).length ≤ 1000000) (h2 : sumB (ns.getD 0 []) ≤ 1000000) : Meets Tryd.prog 24 [.ptr 500 0, .u8 110, .ptr 510 0] [(500, some ⟨.agg [.ptr 500 0, .sl 501 0 (n) 1], 56, true⟩), (501, some ⟨.aggB w, 5, true⟩), (510, some ⟨rowP k us ss ns bs, 30, true⟩)] (.tup []) [(500, some ⟨.agg [.ptr 500 0, .sl 1008 0 (n + (4 + (joinB (ns.getD 0 [])).length)) 1], 56, true⟩), (1008, some ⟨.aggB (w ++ namesB (ns.getD 0 [])), 5, true⟩), (510, some ⟨rowP k us ss (ns.drop 1) bs, 30, true⟩)] := by
 refine meets_of_ev (nt := 52) Tryd.func24 rfl rfl (Nat.le_of_ble_eq_true rfl) ?_
 refine .seq ?_
 refine .region ?_
 refine .q (op_move rfl) trivial rfl ?_
 refine .nil ?_
 show Ev _ _ _ _ _
 refine .block ?_
 refine .seq ?_
 refine .block ?_
 refine .seq ?_
 refine .block ?_
 refine .seq ?_
 refine .block ?_
 refine .seq ?_
 refine .block ?_
 refine .seq ?_
 refine .block ?_
 refine .seq ?_
 refine .seq ?_
 refine .seq ?_
 refine .region ?_
 refine .q (op_bin8 rfl rfl rfl) trivial rfl ?_
 refine .q (op_assign rfl) trivial rfl ?_
 refine .nil ?_
 show Ev _ _ _ _ _
 refine .cond_false rfl (rfl) ?_
 refine .skip ?_
 show Ev _ _ _ _ _
 refine .seq ?_
 refine .seq ?_
 refine .region ?_
 refine .q (op_bin8 rfl rfl rfl) trivial rfl ?_
 refine .q (op_assign rfl) trivial rfl ?_
 refine .nil ?_
 show Ev _ _ _ _ _
 refine .cond_false rfl (rfl) ?_
 refine .skip ?_
 show Ev _ _ _ _ _
 refine .seq ?_
 refine .seq ?_
 refine .region ?_
 refine .q (op_bin8 rfl rfl rfl) trivial rfl ?_
 refine .q (op_assign rfl) trivial rfl ?_
 refine .nil ?_
 show Ev _ _ _ _ _
 refine .cond_true rfl (rfl) ?_
 refine .exit ?_
 show Ev _ _ _ _ _
 refine .seq ?_
 refine .region ?_
 refine .q (op_move rfl) trivial rfl ?_
 refine .q (op_move rfl) trivial rfl ?_
 refine .q (op_nilCheck rfl) trivial rfl ?_
 refine .q (op_fieldAddr (m := 0) Tryd.underlying30 rfl (by kernel_rfl) rfl) trivial rfl ?_
 refine .as (.ptr 510 3) rfl ?_
 refine .a (op_call (U := [(510, some ⟨rowP k us ss (ns.drop 1) bs, 30, true⟩)]) [(500, 510)] [] (next_n k us ss ns bs h) Tryd.func45 (by kernel_rfl) rfl rfl rfl (⟨⟨_, rfl, rfl, rfl⟩, trivial⟩) (⟨⟨_, _, rfl, rfl, rfl, rfl, id, rfl⟩, trivial⟩) (⟨⟨500, _, rfl, rfl, rfl, rfl, .inr ⟨rfl, _, rfl, rfl⟩⟩, trivial⟩) (⟨(fun _ => ⟨510, _, rfl, rfl⟩), trivial⟩) rfl) trivial rfl ?_
 refine .a (op_call (U := [(1008, some ⟨.aggB (w ++ namesB (ns.getD 0 [])), 5, true⟩), (500, some ⟨.agg [.ptr 500 0, .sl 1008 0 (n + (4 + (joinB (ns.getD 0 [])).length)) 1], 56, true⟩), (501, none)]) [(500, 500), (501, 501)] [(1008, 1000)] (names2_ev (ns.getD 0 []) h1 h2 w n hn (by omega)) Tryd.func44 (by kernel_rfl) rfl rfl rfl (⟨⟨_, rfl, rfl, rfl⟩, ⟨_, rfl, rfl, rfl⟩, trivial⟩) (⟨⟨_, _, rfl, rfl, rfl, rfl, id, rfl⟩, ⟨_, _, rfl, rfl, rfl, rfl, id, rfl⟩, trivial⟩) (⟨⟨1000, _, rfl, rfl, rfl, rfl, .inl rfl⟩, ⟨500, _, rfl, rfl, rfl, rfl, .inr ⟨rfl, _, rfl, rfl⟩⟩, trivial⟩) (⟨(fun _ => ⟨500, _, rfl, rfl⟩), (fun _ => ⟨501, _, rfl, rfl⟩), trivial⟩) rfl) trivial rfl ?_
 refine .nil ?_
 show Ev _ _ _ _ _
 refine .exit ?_
 show RetOk _ _ _ _ _ _ _
 exact ret0 rfl (.inr rfl) ⟨rfl, rfl, rfl, trivial⟩
set_option maxRecDepth 100000 in
theorem put_c (k : Int) (us : List UInt32) (ss : List (List UInt8)) (ns : List (List (List UInt8))) (bs : List Bool) (w : List UInt8) (n : Nat) (hn : n = w.length) (hb : n ≤ 500000000) (h : 0 < ss.length) (hx : (ss.getD 0 []).length ≤ 100000000) : Meets Tryd.prog 24 [.ptr 500 0, .u8 99, .ptr 510 0] [(500, some ⟨.agg [.ptr 500 0, .sl 501 0 (n) 1], 56, true⟩), (501, some ⟨.aggB w, 5, true⟩), (510, some ⟨rowP k us ss ns bs, 30, true⟩)] (.tup []) [(500, some ⟨.agg [.ptr 500 0, .sl 1008 0 (n + (ss.getD 0 []).length) 1], 56, true⟩), (1008, some ⟨.aggB (w ++ (ss.getD 0 [])), 5, true⟩), (510, some ⟨rowP k us (ss.drop 1) ns bs, 30, true⟩)] := by
 refine meets_of_ev (nt := 52) Tryd.func24 rfl rfl (Nat.le_of_ble_eq_true rfl) ?_
 refine .seq ?_
 refine .region ?_
 refine .q (op_move rfl) trivial rfl ?_
 refine .nil ?_
 show Ev _ _ _ _ _
 refine .block ?_
 refine .seq ?_
 refine .block ?_
 refine .seq ?_
 refine .block ?_
 refine .seq ?_
 refine .block ?_
 refine .seq ?_
 refine .block ?_
 refine .seq ?_
 refine .block ?_
 refine .seq ?_
 refine .seq ?_
 refine .seq ?_
 refine .region ?_
 refine .q (op_bin8 rfl rfl rfl) trivial rfl ?_
 refine .q (op_assign rfl) trivial rfl ?_
 refine .nil ?_
 show Ev _ _ _ _ _
 refine .cond_false rfl (rfl) ?_
 refine .skip ?_
 show Ev _ _ _ _ _
 refine .seq ?_
 refine .seq ?_
 refine .region ?_
 refine .q (op_bin8 rfl rfl rfl) trivial rfl ?_
 refine .q (op_assign rfl) trivial rfl ?_
 refine .nil ?_
 show Ev _ _ _ _ _
 refine .cond_false rfl (rfl) ?_
 refine .skip ?_
 show Ev _ _ _ _ _
 refine .seq ?_
 refine .seq ?_
 refine .region ?_
 refine .q (op_bin8 rfl rfl rfl) trivial rfl ?_
 refine .q (op_assign rfl) trivial rfl ?_
 refine .nil ?_
 show Ev _ _ _ _ _
 refine .cond_false rfl (rfl) ?_
 refine .skip ?_
 show Ev _ _ _ _ _
 refine .seq ?_
 refine .seq ?_
 refine .region ?_
 refine .q (op_bin8 rfl rfl rfl) trivial rfl ?_
 refine .q (op_assign rfl) trivial rfl ?_
 refine .nil ?_
 show Ev _ _ _ _ _
 refine .cond_false rfl (rfl) ?_
 refine .skip ?_
 show Ev _ _ _ _ _
 refine .seq ?_
 refine .seq ?_
 refine .region ?_
 refine .q (op_bin8 rfl rfl rfl) trivial rfl ?_
 refine .q (op_assign rfl) trivial rfl ?_
 refine .nil ?_
 show Ev _ _ _ _ _
 refine .cond_true rfl (rfl) ?_
 refine .skip ?_
 show Ev _ _ _ _ _
 refine .cond_true rfl (rfl) ?_
 refine .exit ?_
 show Ev _ _ _ _ _
 refine .seq ?_
 refine .region ?_
 refine .q (op_move rfl) trivial rfl ?_
 refine .q (op_move rfl) trivial rfl ?_
 refine .q (op_nilCheck rfl) trivial rfl ?_
 refine .q (op_fieldAddr (m := 0) Tryd.underlying30 rfl (by kernel_rfl) rfl) trivial rfl ?_
 refine .as (.ptr 510 2) rfl ?_
 refine .a (op_call (U := [(510, some ⟨rowP k us (ss.drop 1) ns bs, 30, true⟩)]) [(500, 510)] [] (next_s k us ss ns bs h) Tryd.func47 (by kernel_rfl) rfl rfl rfl (⟨⟨_, rfl, rfl, rfl⟩, trivial⟩) (⟨⟨_, _, rfl, rfl, rfl, rfl, id, rfl⟩, trivial⟩) (⟨⟨500, _, rfl, rfl, rfl, rfl, .inr ⟨rfl, _, rfl, rfl⟩⟩, trivial⟩) (⟨(fun _ => ⟨510, _, rfl, rfl⟩), trivial⟩) rfl) trivial rfl ?_
 refine .a (op_call (U := [(1008, some ⟨.aggB (w ++ (ss.getD 0 [])), 5, true⟩), (500, some ⟨.agg [.ptr 500 0, .sl 1008 0 (n + (ss.getD 0 []).length) 1], 56, true⟩), (501, none)]) [(500, 500), (501, 501)] [(1008, 1000)] (raw2_ev (ss.getD 0 []) (by omega) w n hn (by omega)) Tryd.func46 (by kernel_rfl) rfl rfl rfl (⟨⟨_, rfl, rfl, rfl⟩, ⟨_, rfl, rfl, rfl⟩, trivial⟩) (⟨⟨_, _, rfl, rfl, rfl, rfl, id, rfl⟩, ⟨_, _, rfl, rfl, rfl, rfl, id, rfl⟩, trivial⟩) (⟨⟨1000, _, rfl, rfl, rfl, rfl, .inl rfl⟩, ⟨500, _, rfl, rfl, rfl, rfl, .inr ⟨rfl, _, rfl, rfl⟩⟩, trivial⟩) (⟨(fun _ => ⟨500, _, rfl, rfl⟩), (fun _ => ⟨501, _, rfl, rfl⟩), trivial⟩) rfl) trivial rfl ?_
 refine .nil ?_
 show Ev _ _ _ _ _
 refine .exit ?_
 show RetOk _ _ _ _ _ _ _
 exact ret0 rfl (.inr rfl) ⟨rfl, rfl, rfl, trivial⟩
set_option maxRecDepth 100000 in
theorem put_r (k : Int) (us : List UInt32) (ss : List (List UInt8)) (ns : List (List (List UInt8))) (bs : List Bool) (w : List UInt8) (n : Nat) (hn : n = w.length) (hb : n ≤ 500000000) (h : 0 < ss.length) (hx : (ss.getD 0 []).length ≤ 100000000) : Meets Tryd.prog 24 [.ptr 500 0, .u8 114, .ptr 510 0] [(500, some ⟨.agg [.ptr 500 0, .sl 501 0 (n) 1], 56, true⟩), (501, some ⟨.aggB w, 5, true⟩), (510, some ⟨rowP k us ss ns bs, 30, true⟩)] (.tup []) [(500, some ⟨.agg [.ptr 500 0, .sl 1008 0 (n + (ss.getD 0 []).length) 1], 56, true⟩), (1008, some ⟨.aggB (w ++ (ss.getD 0 [])), 5, true⟩), (510, some ⟨rowP k us (ss.drop 1) ns bs, 30, true⟩)] := by
 refine meets_of_ev (nt := 52) Tryd.func24 rfl rfl (Nat.le_of_ble_eq_true rfl) ?_
 refine .seq ?_
 refine .region ?_
 refine .q (op_move rfl) trivial rfl ?_
 refine .nil ?_
 show Ev _ _ _ _ _
 refine .block ?_
 refine .seq ?_
 refine .block ?_
 refine .seq ?_
 refine .block ?_
 refine .seq ?_
 refine .block ?_
 refine .seq ?_
 refine .block ?_
 refine .seq ?_
 refine .block ?_
 refine .seq ?_
 refine .seq ?_
 refine .seq ?_
 refine .region ?_
 refine .q (op_bin8 rfl rfl rfl) trivial rfl ?_
 refine .q (op_assign rfl) trivial rfl ?_
 refine .nil ?_
 show Ev _ _ _ _ _
 refine .cond_false rfl (rfl) ?_
 refine .skip ?_
 show Ev _ _ _ _ _
 refine .seq ?_
 refine .seq ?_
 refine .region ?_
 refine .q (op_bin8 rfl rfl rfl) trivial rfl ?_
 refine .q (op_assign rfl) trivial rfl ?_
 refine .nil ?_
 show Ev _ _ _ _ _
 refine .cond_false rfl (rfl) ?_
 refine .skip ?_
 show Ev _ _ _ _ _
 refine .seq ?_
 refine .seq ?_
 refine .region ?_
 refine .q (op_bin8 rfl rfl rfl) trivial rfl ?_
 refine .q (op_assign rfl) trivial rfl ?_
 refine .nil ?_
 show Ev _ _ _ _ _
 refine .cond_false rfl (rfl) ?_
 refine .skip ?_
 show Ev _ _ _ _ _
 refine .seq ?_
 refine .seq ?_
 refine .region ?_
 refine .q (op_bin8 rfl rfl rfl) trivial rfl ?_
 refine .q (op_assign rfl) trivial rfl ?_
 refine .nil ?_
 show Ev _ _ _ _ _
 refine .cond_false rfl (rfl) ?_
 refine .skip ?_
 show Ev _ _ _ _ _
 refine .seq ?_
 refine .seq ?_
 refine .region ?_
 refine .q (op_bin8 rfl rfl rfl) trivial rfl ?_
 refine .q (op_assign rfl) trivial rfl ?_
 refine .nil ?_
 show Ev _ _ _ _ _
 refine .cond_false rfl (rfl) ?_
 refine .region ?_
 refine .q (op_bin8 rfl rfl rfl) trivial rfl ?_
 refine .q (op_assign rfl) trivial rfl ?_
 refine .nil ?_
 show Ev _ _ _ _ _
 refine .cond_true rfl (rfl) ?_
 refine .exit ?_
 show Ev _ _ _ _ _
 refine .seq ?_
 refine .region ?_
 refine .q (op_move rfl) trivial rfl ?_
 refine .q (op_move rfl) trivial rfl ?_
 refine .q (op_nilCheck rfl) trivial rfl ?_
 refine .q (op_fieldAddr (m := 0) Tryd.underlying30 rfl (by kernel_rfl) rfl) trivial rfl ?_
 refine .as (.ptr 510 2) rfl ?_
 refine .a (op_call (U := [(510, some ⟨rowP k us (ss.drop 1) ns bs, 30, true⟩)]) [(500, 510)] [] (next_s k us ss ns bs h) Tryd.func47 (by kernel_rfl) rfl rfl rfl (⟨⟨_, rfl, rfl, rfl⟩, trivial⟩) (⟨⟨_, _, rfl, rfl, rfl, rfl, id, rfl⟩, trivial⟩) (⟨⟨500, _, rfl, rfl, rfl, rfl, .inr ⟨rfl, _, rfl, rfl⟩⟩, trivial⟩) (⟨(fun _ => ⟨510, _, rfl, rfl⟩), trivial⟩) rfl) trivial rfl ?_
 refine .a (op_call (U := [(1008, some ⟨.aggB (w ++ (ss.getD 0 [])), 5, true⟩), (500, some ⟨.agg [.ptr 500 0, .sl 1008 0 (n + (ss.getD 0 []).length) 1], 56, true⟩), (501, none)]) [(500, 500), (501, 501)] [(1008, 1000)] (raw2_ev (ss.getD 0 []) (by omega) w n hn (by omega)) Tryd.func46 (by kernel_rfl) rfl rfl rfl (⟨⟨_, rfl, rfl, rfl⟩, ⟨_, rfl, rfl, rfl⟩, trivial⟩) (⟨⟨_, _, rfl, rfl, rfl, rfl, id, rfl⟩, ⟨_, _, rfl, rfl, rfl, rfl, id, rfl⟩, trivial⟩) (⟨⟨1000, _, rfl, rfl, rfl, rfl, .inl rfl⟩, ⟨500, _, rfl, rfl, rfl, rfl, .inr ⟨rfl, _, rfl, rfl⟩⟩, trivial⟩) (⟨(fun _ => ⟨500, _, rfl, rfl⟩), (fun _ => ⟨501, _, rfl, rfl⟩), trivial⟩) rfl) trivial rfl ?_
 refine .nil ?_
 show Ev _ _ _ _ _
 refine .exit ?_
 show RetOk _ _ _ _ _ _ _
 exact ret0 rfl (.inr rfl) ⟨rfl, rfl, rfl, trivial⟩
set_option maxRecDepth 100000 in
theorem put_s (k : Int) (us : List UInt32) (ss : List (List UInt8)) (ns : List (List (List UInt8))) (bs : List Bool) (w : List UInt8) (n : Nat) (hn : n = w.length) (hb : n ≤ 500000000) (h : 0 < ss.length) (hx : (ss.getD 0 []).length ≤ 100000000) : Meets Tryd.prog 24 [.ptr 500 0, .u8 115, .ptr 510 0] [(500, some ⟨.agg [.ptr 500 0, .sl 501 0 (n) 1], 56, true⟩), (501, some ⟨.aggB w, 5, true⟩), (510, some ⟨rowP k us ss ns bs, 30, true⟩)] (.tup []) [(500, some ⟨.agg [.ptr 500 0, .sl 1016 0 (n + 4 + (ss.getD 0 []).length) 1], 56, true⟩), (1016, some ⟨.aggB ((w ++ lenB (ss.getD 0 [])) ++ (ss.getD 0 [])), 5, true⟩), (510, some ⟨rowP k us (ss.drop 1) ns bs, 30, true⟩)] := by
 refine meets_of_ev (nt := 52) Tryd.func24 rfl rfl (Nat.le_of_ble_eq_true rfl) ?_
 refine .seq ?_
 refine .region ?_
 refine .q (op_move rfl) trivial rfl ?_
 refine .nil ?_
 show Ev _ _ _ _ _
 refine .block ?_
 refine .seq ?_
 refine .block ?_
 refine .seq ?_
 refine .block ?_
 refine .seq ?_
 refine .block ?_
 refine .seq ?_
 refine .block ?_
 refine .seq ?_
 refine .block ?_
 refine .seq ?_
 refine .seq ?_
 refine .seq ?_
 refine .region ?_
 refine .q (op_bin8 rfl rfl rfl) trivial rfl ?_
 refine .q (op_assign rfl) trivial rfl ?_
 refine .nil ?_
 show Ev _ _ _ _ _
 refine .cond_false rfl (rfl) ?_
 refine .skip ?_
 show Ev _ _ _ _ _
 refine .seq ?_
 refine .seq ?_
 refine .region ?_
 refine .q (op_bin8 rfl rfl rfl) trivial rfl ?_
 refine .q (op_assign rfl) trivial rfl ?_
 refine .nil ?_
 show Ev _ _ _ _ _
 refine .cond_false rfl (rfl) ?_
 refine .skip ?_
 show Ev _ _ _ _ _
 refine .seq ?_
 refine .seq ?_
 refine .region ?_
 refine .q (op_bin8 rfl rfl rfl) trivial rfl ?_
 refine .q (op_assign rfl) trivial rfl ?_
 refine .nil ?_
 show Ev _ _ _ _ _
 refine .cond_false rfl (rfl) ?_
 refine .skip ?_
 show Ev _ _ _ _ _
 refine .seq ?_
 refine .seq ?_
 refine .region ?_
 refine .q (op_bin8 rfl rfl rfl) trivial rfl ?_
 refine .q (op_assign rfl) trivial rfl ?_
 refine .nil ?_
 show Ev _ _ _ _ _
 refine .cond_true rfl (rfl) ?_
 refine .exit ?_
 show Ev _ _ _ _ _
 refine .region ?_
 refine .q (op_move rfl) trivial rfl ?_
 refine .q (op_move rfl) trivial rfl ?_
 refine .q (op_nilCheck rfl) trivial rfl ?_
 refine .q (op_fieldAddr (m := 0) Tryd.underlying30 rfl (by kernel_rfl) rfl) trivial rfl ?_
 refine .as (.ptr 510 2) rfl ?_
 refine .q (op_load Tryd.underlying23 rfl rfl rfl rfl (by show 2 < 5; decide)) trivial rfl ?_
 refine .q (op_indexAddr_fsl (i := 0) (z := 1) Tryd.underlying23 inf9.sz (by decide) rfl rfl rfl h) trivial rfl ?_
 refine .q (op_load_fptr Tryd.underlying9 rfl rfl (get_head AV.str [] h)) trivial rfl ?_
 refine .q (op_len_str Tryd.underlying9 rfl) trivial rfl ?_
 refine .q (op_conv Tryd.underlying3 Tryd.underlying42 rfl rfl) trivial rfl ?_
 refine .a (op_call (U := [(1000, some ⟨.aggB (w ++ lenB (ss.getD 0 [])), 5, true⟩), (500, some ⟨.agg [.ptr 500 0, .sl 1000 0 (n + 4) 1], 56, true⟩), (501, none)]) [(500, 500), (501, 501)] [(1000, 1000)] (u322_ev (ofI32 ((ss.getD 0 []).length : Int)) w n hn (by omega)) Tryd.func40 (by kernel_rfl) rfl rfl rfl (⟨⟨_, rfl, rfl, rfl⟩, ⟨_, rfl, rfl, rfl⟩, trivial⟩) (⟨⟨_, _, rfl, rfl, rfl, rfl, id, rfl⟩, ⟨_, _, rfl, rfl, rfl, rfl, id, rfl⟩, trivial⟩) (⟨⟨1000, _, rfl, rfl, rfl, rfl, .inl rfl⟩, ⟨500, _, rfl, rfl, rfl, rfl, .inr ⟨rfl, _, rfl, rfl⟩⟩, trivial⟩) (⟨(fun _ => ⟨500, _, rfl, rfl⟩), (fun _ => ⟨501, _, rfl, rfl⟩), trivial⟩) rfl) trivial rfl ?_
 refine .nil ?_
 show Ev _ _ _ _ _
 refine .seq ?_
 refine .region ?_
 refine .q (op_move rfl) trivial rfl ?_
 refine .q (op_move rfl) trivial rfl ?_
 refine .q (op_nilCheck rfl) trivial rfl ?_
 refine .q (op_fieldAddr (m := 0) Tryd.underlying30 rfl (by kernel_rfl) rfl) trivial rfl ?_
 refine .as (.ptr 510 2) rfl ?_
 refine .a (op_call (U := [(510, some ⟨rowP k us (ss.drop 1) ns bs, 30, true⟩)]) [(500, 510)] [] (next_s k us ss ns bs h) Tryd.func47 (by kernel_rfl) rfl rfl rfl (⟨⟨_, rfl, rfl, rfl⟩, trivial⟩) (⟨⟨_, _, rfl, rfl, rfl, rfl, id, rfl⟩, trivial⟩) (⟨⟨500, _, rfl, rfl, rfl, rfl, .inr ⟨rfl, _, rfl, rfl⟩⟩, trivial⟩) (⟨(fun _ => ⟨510, _, rfl, rfl⟩), trivial⟩) rfl) trivial rfl ?_
 refine .a (op_call (U := [(1016, some ⟨.aggB ((w ++ lenB (ss.getD 0 [])) ++ (ss.getD 0 [])), 5, true⟩), (500, some ⟨.agg [.ptr 500 0, .sl 1016 0 (n + 4 + (ss.getD 0 []).length) 1], 56, true⟩), (1000, none)]) [(500, 500), (501, 1000)] [(1016, 1000)] (raw2_ev (ss.getD 0 []) (by omega) (w ++ lenB (ss.getD 0 [])) (n + 4) (by rw [List.length_append, hn]; rfl) (by omega)) Tryd.func46 (by kernel_rfl) rfl rfl rfl (⟨⟨_, rfl, rfl, rfl⟩, ⟨_, rfl, rfl, rfl⟩, trivial⟩) (⟨⟨_, _, rfl, rfl, rfl, rfl, id, rfl⟩, ⟨_, _, rfl, rfl, rfl, rfl, id, rfl⟩, trivial⟩) (⟨⟨1000, _, rfl, rfl, rfl, rfl, .inl rfl⟩, ⟨500, _, rfl, rfl, rfl, rfl, .inr ⟨rfl, _, rfl, rfl⟩⟩, trivial⟩) (⟨(fun _ => ⟨500, _, rfl, rfl⟩), (fun _ => ⟨1000, _, rfl, rfl⟩), trivial⟩) rfl) trivial rfl ?_
 refine .nil ?_
 show Ev _ _ _ _ _
 refine .exit ?_
 show RetOk _ _ _ _ _ _ _
 exact ret0 rfl (.inr rfl) ⟨rfl, rfl, rfl, trivial⟩
end Go.Proofs.YtenocbhlbgcnfaaDoor
namespace Go.Proofs.YtenocbhlbgcnfaaDoor
open Go.RowKit
/-- What is left of a message, and what is written. -/
structure EP where
  us : List UInt32
  ss : List (List UInt8)
  ns : List (List (List UInt8))
  bs : List Bool
  w : List UInt8
/-- A field written, by its letter. -/
def putP (c : UInt8) (e : EP) : EP :=
  if c = 117 then ⟨e.us.drop 1, e.ss, e.ns, e.bs, e.w ++ numB (e.us.getD 0 0).toUInt64 4 4⟩
  else if c = 98 then ⟨e.us, e.ss, e.ns, e.bs.drop 1, e.w ++ boolB (e.bs.getD 0 false)⟩
  else if c = 110 then ⟨e.us, e.ss, e.ns.drop 1, e.bs, e.w ++ namesB (e.ns.getD 0 [])⟩
  else if c = 115 then ⟨e.us, e.ss.drop 1, e.ns, e.bs, (e.w ++ lenB (e.ss.getD 0 [])) ++ e.ss.getD 0 []⟩
  else ⟨e.us, e.ss.drop 1, e.ns, e.bs, e.w ++ e.ss.getD 0 []⟩
def encN (fs : List UInt8) (e : EP) : Nat → EP
  | 0 => e
  | j + 1 => putP (fs.getD j 0) (encN fs e j)
theorem cnt_at (x : List UInt8) {fs : List UInt8} {j : Nat} (hj : j < fs.length) : cntL x (fs.drop j) = x.count (fs.getD j 0) + cntL x (fs.drop (j + 1)) := by
  rw [List.drop_eq_getElem_cons hj, show fs.getD j 0 = fs[j] by simp [List.getD_eq_getElem?_getD, hj]]; rfl
theorem getD_drop1 {α : Type} (l : List α) (d : α) (i : Nat) : (l.drop 1).getD i d = l.getD (i + 1) d := by
  rw [List.getD_eq_getElem?_getD, List.getD_eq_getElem?_getD, List.getElem?_drop, Nat.add_comm]
/-- Where Bytes stands between two letters. -/
structure BI (fs : List UInt8) (e0 : EP) where
  j : Nat
  m : EP
  hj : j ≤ fs.length
  he : encN fs e0 j = m
  cu : m.us.length = cntL [117] (fs.drop j)
  cs : m.ss.length = cntL [115, 99, 114] (fs.drop j)
  cn : m.ns.length = cntL [110] (fs.drop j)
  cb : m.bs.length = cntL [98] (fs.drop j)
  w0 : 0 < m.w.length
  wl : m.w.length ≤ 1 + j * 3000000
  sl : ∀ i, (m.ss.getD i []).length ≤ 100000
  nl : ∀ i, (m.ns.getD i []).length ≤ 100000 ∧ sumB (m.ns.getD i []) ≤ 1000000
theorem joinB_le (l : List (List UInt8)) : (joinB l).length ≤ sumB l + l.length := by
  rw [joinB_len]; omega
set_option maxRecDepth 100000 in
theorem mbytes_no (k : Int) (us : List UInt32) (ss : List (List UInt8)) (ns : List (List (List UInt8))) (bs : List Bool) (hs : isKind k = true → cntB us ss ns bs (fieldsOf k) = true → 0 ≤ Lib.indexByte (fieldsOf k) 99 → 0 < ss.length) (hsl : ss.length ≤ 1000) (hss : ∀ i, (ss.getD i []).length ≤ 32768) (hjj : ∀ i, (joinB (ns.getD i [])).length ≤ 4096) (hnl : ns.length ≤ 1000) (hnn : ∀ i, (ns.getD i []).length ≤ 1000) (hnj : ∀ i j, ((ns.getD i []).getD j []).length ≤ 1000) (hk : chkF k us ss ns bs ≠ 0) (eo : Nat → Nat × Nat) : Meets Tryd.prog 9 [.agg [.i64 k, .fsl (List.map AV.u32 us) (us).length 1, .dsl ss, .fsl (List.map AV.dsl ns) (ns).length 1, .fsl (List.map AV.bool bs) (bs).length 1]] [(20, some ⟨.agg kindCells, errT, false⟩), (19, some ⟨.agg [.err 131 (20) (offE eo (20))], errT, false⟩), (0, some ⟨.agg [.err 131 (1) (offE eo (1))], errT, false⟩), (3, some ⟨.agg [.err 131 (4) (offE eo (4))], errT, false⟩)] (.str []) [] := by
 refine meets_of_ev (nt := 31) Tryd.func9 rfl rfl (Nat.le_of_ble_eq_true rfl) ?_
 refine .seq ?_
 refine .region ?_
 refine .a (op_boxRow rfl rfl) trivial rfl ?_
 refine .q (op_assign rfl) trivial rfl ?_
 refine .nil ?_
 show Ev _ _ _ _ _
 refine .seq ?_
 refine .seq ?_
 refine .region ?_
 refine .q (op_loadRow Tryd.underlying30 rfl (by kernel_rfl) rfl rfl rfl (rfl)) trivial rfl ?_
 refine .q (op_call (U := []) [] [] (check_any k us ss ns bs hs hsl hss hjj hnl hnn hnj eo) Tryd.func7 (by kernel_rfl) rfl rfl rfl (⟨⟨_, rfl, rfl, rfl⟩, trivial⟩) (⟨⟨_, _, rfl, rfl, rfl, rfl, (fun h => by cases h), rfl⟩, ⟨_, _, rfl, rfl, rfl, rfl, (fun h => by cases h), rfl⟩, ⟨_, _, rfl, rfl, rfl, rfl, (fun h => by cases h), rfl⟩, ⟨_, _, rfl, rfl, rfl, rfl, (fun h => by cases h), rfl⟩, trivial⟩) (trivial) (⟨(fun h => by cases h), (fun h => by cases h), (fun h => by cases h), (fun h => by cases h), trivial⟩) rfl) trivial rfl ?_
 refine .q (op_eqErrNil (e := (chkF k us ss ns bs)) Tryd.underlying33 rfl rfl) trivial rfl ?_
 refine .nil ?_
 show Ev _ _ _ _ _
 refine .cond_true rfl (bne_iff_ne.2 hk) ?_
 refine .seq ?_
 refine .region ?_
 refine .q (op_assign rfl) trivial rfl ?_
 refine .nil ?_
 show Ev _ _ _ _ _
 refine .ret ?_
 show RetOk _ _ _ _ _ _ _
 exact ret1v rfl (.inl rfl) rfl (rfl) trivial
set_option maxRecDepth 100000 in
theorem mbytes_ok (k : Int) (us0 : List UInt32) (ss0 : List (List UInt8)) (ns0 : List (List (List UInt8))) (bs0 : List Bool) (hs : isKind k = true → cntB us0 ss0 ns0 bs0 (fieldsOf k) = true → 0 ≤ Lib.indexByte (fieldsOf k) 99 → 0 < ss0.length) (hsl : ss0.length ≤ 1000) (hss : ∀ i, (ss0.getD i []).length ≤ 32768) (hjj : ∀ i, (joinB (ns0.getD i [])).length ≤ 4096) (hnl : ns0.length ≤ 1000) (hnn : ∀ i, (ns0.getD i []).length ≤ 1000) (hnj : ∀ i j, ((ns0.getD i []).getD j []).length ≤ 1000) (hcu : us0.length = cntL [117] (fieldsOf k)) (hcs : ss0.length = cntL [115, 99, 114] (fieldsOf k)) (hcn : ns0.length = cntL [110] (fieldsOf k)) (hcb : bs0.length = cntL [98] (fieldsOf k)) (hsm : ∀ i, sumB (ns0.getD i []) ≤ 100000) (hk : chkF k us0 ss0 ns0 bs0 = 0) (eo : Nat → Nat × Nat) : Meets Tryd.prog 9 [.agg [.i64 k, .fsl (List.map AV.u32 us0) (us0).length 1, .dsl ss0, .fsl (List.map AV.dsl ns0) (ns0).length 1, .fsl (List.map AV.bool bs0) (bs0).length 1]] [(20, some ⟨.agg kindCells, errT, false⟩), (19, some ⟨.agg [.err 131 (20) (offE eo (20))], errT, false⟩), (0, some ⟨.agg [.err 131 (1) (offE eo (1))], errT, false⟩), (3, some ⟨.agg [.err 131 (4) (offE eo (4))], errT, false⟩)] (.str (encN (fieldsOf k) (EP.mk us0 ss0 ns0 bs0 [(ofI8 k)]) (fieldsOf k).length).w) [] := by
 refine meets_of_ev (nt := 31) Tryd.func9 rfl rfl (Nat.le_of_ble_eq_true rfl) ?_
 refine .seq ?_
 refine .region ?_
 refine .a (op_boxRow rfl rfl) trivial rfl ?_
 refine .q (op_assign rfl) trivial rfl ?_
 refine .nil ?_
 show Ev _ _ _ _ _
 refine .seq ?_
 refine .seq ?_
 refine .region ?_
 refine .q (op_loadRow Tryd.underlying30 rfl (by kernel_rfl) rfl rfl rfl (rfl)) trivial rfl ?_
 refine .q (op_call (U := []) [] [] (check_any k us0 ss0 ns0 bs0 hs hsl hss hjj hnl hnn hnj eo) Tryd.func7 (by kernel_rfl) rfl rfl rfl (⟨⟨_, rfl, rfl, rfl⟩, trivial⟩) (⟨⟨_, _, rfl, rfl, rfl, rfl, (fun h => by cases h), rfl⟩, ⟨_, _, rfl, rfl, rfl, rfl, (fun h => by cases h), rfl⟩, ⟨_, _, rfl, rfl, rfl, rfl, (fun h => by cases h), rfl⟩, ⟨_, _, rfl, rfl, rfl, rfl, (fun h => by cases h), rfl⟩, trivial⟩) (trivial) (⟨(fun h => by cases h), (fun h => by cases h), (fun h => by cases h), (fun h => by cases h), trivial⟩) rfl) trivial rfl ?_
 refine .q (op_eqErrNil (e := (chkF k us0 ss0 ns0 bs0)) Tryd.underlying33 rfl rfl) trivial rfl ?_
 refine .nil ?_
 show Ev _ _ _ _ _
 refine .cond_false rfl (by rw [hk]; rfl) ?_
 refine .skip ?_
 show Ev _ _ _ _ _
 refine .seq ?_
 refine .region ?_
 refine .a (op_allocRow zero56 rel_zero56 rfl) trivial rfl ?_
 skip
 refine .nil ?_
 show Ev _ _ _ _ _
 refine .seq ?_
 refine .region ?_
 refine .q (op_fieldAddr (m := 0) Tryd.underlying30 rfl (by kernel_rfl) rfl) trivial rfl ?_
 refine .as (.ptr 1000 0) rfl ?_
 refine .q (op_load Tryd.underlying3 rfl rfl rfl rfl (by show 0 < 5; decide)) trivial rfl ?_
 refine .q (op_conv Tryd.underlying3 Tryd.underlying5 rfl rfl) trivial rfl ?_
 refine .a (op_call (U := [(1016, some ⟨.aggB [(ofI8 k)], 5, true⟩), (1008, some ⟨.agg [.ptr 1008 0, .sl 1016 0 (1) 1], 56, true⟩)]) [(500, 1008)] [(1016, 1000)] (byte0_ev (ofI8 k)) Tryd.func23 (by kernel_rfl) rfl rfl rfl (⟨⟨_, rfl, rfl, rfl⟩, ⟨_, rfl, rfl, rfl⟩, trivial⟩) (⟨⟨_, _, rfl, rfl, rfl, rfl, id, rfl⟩, trivial⟩) (⟨⟨1000, _, rfl, rfl, rfl, rfl, .inl rfl⟩, ⟨500, _, rfl, rfl, rfl, rfl, .inr ⟨rfl, _, rfl, rfl⟩⟩, trivial⟩) (⟨(fun _ => ⟨1008, _, rfl, rfl⟩), trivial⟩) rfl) trivial rfl ?_
 refine .nil ?_
 show Ev _ _ _ _ _
 refine .seq ?_
 refine .region ?_
 refine .q (op_fieldAddr (m := 0) Tryd.underlying30 rfl (by kernel_rfl) rfl) trivial rfl ?_
 refine .as (.ptr 1000 0) rfl ?_
 refine .q (op_load Tryd.underlying3 rfl rfl rfl rfl (by show 0 < 5; decide)) trivial rfl ?_
 refine .q (op_call (U := []) [] [] (fields_ev k) Tryd.func16 (by kernel_rfl) rfl rfl rfl (⟨⟨_, rfl, rfl, rfl⟩, trivial⟩) (⟨⟨_, _, rfl, rfl, rfl, rfl, (fun h => by cases h), rfl⟩, trivial⟩) (trivial) (⟨(fun h => by cases h), trivial⟩) rfl) trivial rfl ?_
 refine .q (op_move rfl) trivial rfl ?_
 refine .q (op_extract rfl rfl) trivial rfl ?_
 refine .q (op_extract rfl rfl) trivial rfl ?_
 refine .q (op_assign rfl) trivial rfl ?_
 refine .q (op_assign rfl) trivial rfl ?_
 refine .nil ?_
 show Ev _ _ _ _ _
 refine .seq ?_
 refine .seq ?_
 refine .region ?_
 refine .q (op_move rfl) trivial rfl ?_
 refine .q (op_len_str Tryd.underlying9 rfl) trivial rfl ?_
 refine .q (op_move rfl) trivial rfl ?_
 refine .nil ?_
 show Ev _ _ _ _ _
 refine .block ?_
 refine Ev.weak (StLe.weakB (cb := 1000) (ec := 30) (oc := true) (cs := [.i64 k, .fsl (us0.map .u32) us0.length 1, .dsl ss0, .fsl (ns0.map .dsl) ns0.length 1, .fsl (bs0.map .bool) bs0.length 1]) (cs' := [.i64 k, .fsl (us0.map .u32) us0.length 1, .fsl (ss0.map .str) ss0.length 1, .fsl (ns0.map .dsl) ns0.length 1, .fsl (bs0.map .bool) bs0.length 1]) (Nat.le_of_ble_eq_true rfl) rfl rfl (weak5 rfl rfl rfl rfl rfl (fun _ _ h => h) (dsl_fsl ss0) (fun _ _ h => h) (fun _ _ h => h))) ?_
 refine Ev.loop (ι := BI (fieldsOf k) (EP.mk us0 ss0 ns0 bs0 [(ofI8 k)])) (fun q => ⟨[(1, .ptr 1000 0), (3, .ptr 1008 0), (4, .str (fieldsOf k)), (21, .i64 (((fieldsOf k).length : Nat) : Int)), (22, .i64 ((q.j : Nat) : Int))], [(1000, some ⟨rowP k q.m.us q.m.ss q.m.ns q.m.bs, 30, true⟩), (1008, some ⟨.agg [.ptr 1008 0, .sl 1016 0 (q.m.w.length) 1], 56, true⟩), (1016, some ⟨.aggB q.m.w, 5, true⟩), (20, some ⟨.agg kindCells, errT, false⟩), (19, some ⟨.agg [.err 131 (20) (offE eo (20))], errT, false⟩), (0, some ⟨.agg [.err 131 (1) (offE eo (1))], errT, false⟩), (3, some ⟨.agg [.err 131 (4) (offE eo (4))], errT, false⟩)], 1024⟩) (fun q => (fieldsOf k).length - q.j) ⟨0, (EP.mk us0 ss0 ns0 bs0 [(ofI8 k)]), Nat.zero_le _, rfl, hcu, hcs, hcn, hcb, Nat.one_pos, by show [(ofI8 k)].length ≤ _; simp, fun i => Nat.le_trans (hss i) (by decide), fun i => ⟨Nat.le_trans (hnn i) (by decide), Nat.le_trans (hsm i) (by decide)⟩⟩ (StLe.mk [(1000, 1000), (1008, 1008), (1016, 1016)] rfl rfl ⟨⟨_, rfl, by first | rfl | (simp only [AV.ren]; congr 1; omega), rfl⟩, ⟨_, rfl, by first | rfl | (simp only [AV.ren]; congr 1; omega), rfl⟩, ⟨_, rfl, by first | rfl | (simp only [AV.ren]; congr 1; omega), rfl⟩, ⟨_, rfl, by first | rfl | (simp only [AV.ren]; congr 1; omega), rfl⟩, ⟨_, rfl, by first | rfl | (simp only [AV.ren]; congr 1; omega), rfl⟩, trivial⟩ ⟨⟨_, _, rfl, rfl, rfl, rfl, id, rfl⟩, ⟨_, _, rfl, rfl, rfl, rfl, id, rfl⟩, ⟨_, _, rfl, rfl, rfl, rfl, id, rfl⟩, ⟨_, _, rfl, rfl, rfl, rfl, id, rfl⟩, ⟨_, _, rfl, rfl, rfl, rfl, id, rfl⟩, ⟨_, _, rfl, rfl, rfl, rfl, id, rfl⟩, ⟨_, _, rfl, rfl, rfl, rfl, id, rfl⟩, trivial⟩) ?_
 rintro ⟨j, ⟨us, ss, ns, bs, w⟩, hj, he, cu, cs, cn, cb, w0, wl, sl, nl⟩
 dsimp only at cu cs cn cb w0 wl sl nl ⊢
 have hfl := fields_len k
 refine .seq ?_
 refine .region ?_
 refine .q (op_cmpI rfl rfl rfl) trivial rfl ?_
 refine .nil ?_
 show Ev _ _ _ _ _
 refine .seq ?_
 refine .cond rfl (fun hc23 => ?_) (fun hc23 => ?_)
 ·simp only [decide_eq_true_eq] at hc23
  refine .skip ?_
  show Ev _ _ _ _ _
  refine .seq ?_
  refine .block ?_
  refine .seq ?_
  refine .region ?_
  refine .q (op_move rfl) trivial rfl ?_
  refine .q (op_assign rfl) trivial rfl ?_
  refine .nil ?_
  show Ev _ _ _ _ _
  refine .region ?_
  refine .q (op_move rfl) trivial rfl ?_
  refine .q (op_move rfl) trivial rfl ?_
  refine .q (op_index_str Tryd.underlying9 rfl rfl (show _ = ((j : Nat) : Int) from rfl) (by omega)) trivial rfl ?_
  refine six_of (fields_six k j (by omega)) (fun h6 => ?_) (fun h6 => ?_) (fun h6 => ?_) (fun h6 => ?_) (fun h6 => ?_) (fun h6 => ?_)
  ·refine .as (.u8 117) (congrArg AV.u8 h6) ?_
   have hjl : j < (fieldsOf k).length := by omega
   have ku := cnt_at [117] hjl
   rw [h6, show List.count (117 : UInt8) [117] = 1 by decide] at ku
   have ks := cnt_at [115, 99, 114] hjl
   rw [h6, show List.count (117 : UInt8) [115, 99, 114] = 0 by decide] at ks
   have kn := cnt_at [110] hjl
   rw [h6, show List.count (117 : UInt8) [110] = 0 by decide] at kn
   have kb := cnt_at [98] hjl
   rw [h6, show List.count (117 : UInt8) [98] = 0 by decide] at kb
   have h0 : 0 < us.length := by omega
   refine .a (op_call (U := [(1008, some ⟨.agg [.ptr 1008 0, .sl 1024 0 (w.length + 4) 1], 56, true⟩), (1024, some ⟨.aggB (w ++ numB (us.getD 0 0).toUInt64 4 4), 5, true⟩), (1000, some ⟨rowP k (us.drop 1) ss ns bs, 30, true⟩), (1016, none)]) [(500, 1008), (501, 1016), (510, 1000)] [(1024, 1008)] (put_u k us ss ns bs w w.length rfl (by omega) h0) Tryd.func24 (by kernel_rfl) rfl rfl rfl (⟨⟨_, rfl, rfl, rfl⟩, ⟨_, rfl, rfl, rfl⟩, ⟨_, rfl, rfl, rfl⟩, trivial⟩) (⟨⟨_, _, rfl, rfl, rfl, rfl, id, rfl⟩, ⟨_, _, rfl, rfl, rfl, rfl, id, rfl⟩, ⟨_, _, rfl, rfl, rfl, rfl, id, rfl⟩, trivial⟩) (⟨⟨500, _, rfl, rfl, rfl, rfl, .inr ⟨rfl, _, rfl, rfl⟩⟩, ⟨1008, _, rfl, rfl, rfl, rfl, .inl rfl⟩, ⟨510, _, rfl, rfl, rfl, rfl, .inr ⟨rfl, _, rfl, rfl⟩⟩, trivial⟩) (⟨(fun _ => ⟨1008, _, rfl, rfl⟩), (fun _ => ⟨1016, _, rfl, rfl⟩), (fun _ => ⟨1000, _, rfl, rfl⟩), trivial⟩) rfl) trivial rfl ?_
   refine .nil ?_
   show Ev _ _ _ _ _
   refine .region ?_
   refine .q (op_addI rfl rfl ⟨by omega, by omega⟩) trivial rfl ?_
   refine .q (op_move rfl) trivial rfl ?_
   refine .nil ?_
   have hwl : (w ++ numB (us.getD 0 0).toUInt64 4 4).length = w.length + 4 := by rw [List.length_append, length_numB]
   have he2 : encN (fieldsOf k) (EP.mk us0 ss0 ns0 bs0 [(ofI8 k)]) (j + 1) = EP.mk (us.drop 1) (ss) (ns) (bs) (w ++ numB (us.getD 0 0).toUInt64 4 4) := by
    show putP _ _ = _; rw [he, h6]; rfl
   exact ⟨⟨j + 1, EP.mk (us.drop 1) (ss) (ns) (bs) (w ++ numB (us.getD 0 0).toUInt64 4 4), by omega, he2, (show (us.drop 1).length = _ from by rw [List.length_drop]; omega), (show ss.length = _ from by omega), (show ns.length = _ from by omega), (show bs.length = _ from by omega), by rw [hwl]; omega, by rw [hwl]; have := sl 0; have := nl 0; have := joinB_le (ns.getD 0 []); omega, sl, nl⟩, by show (fieldsOf k).length - (j + 1) < (fieldsOf k).length - j; omega, StLe.mk [(1000, 1000), (1008, 1008), (1016, 1024)] rfl rfl ⟨⟨_, rfl, by first | rfl | (simp only [AV.ren]; congr 1; omega), rfl⟩, ⟨_, rfl, by first | rfl | (simp only [AV.ren]; congr 1; omega), rfl⟩, ⟨_, rfl, by first | rfl | (simp only [AV.ren]; congr 1; omega), rfl⟩, ⟨_, rfl, by first | rfl | (simp only [AV.ren]; congr 1; omega), rfl⟩, ⟨_, rfl, by first | rfl | (simp only [AV.ren]; congr 1; omega), rfl⟩, trivial⟩ ⟨⟨_, _, rfl, rfl, rfl, rfl, id, rfl⟩, ⟨_, _, rfl, rfl, (by show AV.agg [_, AV.sl _ 0 _ 1] = _; rw [hwl]; first | rfl | (congr 3; omega)), rfl, id, rfl⟩, ⟨_, _, rfl, rfl, rfl, rfl, id, rfl⟩, ⟨_, _, rfl, rfl, rfl, rfl, id, rfl⟩, ⟨_, _, rfl, rfl, rfl, rfl, id, rfl⟩, ⟨_, _, rfl, rfl, rfl, rfl, id, rfl⟩, ⟨_, _, rfl, rfl, rfl, rfl, id, rfl⟩, trivial⟩⟩
  ·refine .as (.u8 98) (congrArg AV.u8 h6) ?_
   have hjl : j < (fieldsOf k).length := by omega
   have ku := cnt_at [117] hjl
   rw [h6, show List.count (98 : UInt8) [117] = 0 by decide] at ku
   have ks := cnt_at [115, 99, 114] hjl
   rw [h6, show List.count (98 : UInt8) [115, 99, 114] = 0 by decide] at ks
   have kn := cnt_at [110] hjl
   rw [h6, show List.count (98 : UInt8) [110] = 0 by decide] at kn
   have kb := cnt_at [98] hjl
   rw [h6, show List.count (98 : UInt8) [98] = 1 by decide] at kb
   have h0 : 0 < bs.length := by omega
   refine .a (op_call (U := [(1008, some ⟨.agg [.ptr 1008 0, .sl 1024 0 (w.length + 1) 1], 56, true⟩), (1024, some ⟨.aggB (w ++ boolB (bs.getD 0 false)), 5, true⟩), (1000, some ⟨rowP k us ss ns (bs.drop 1), 30, true⟩), (1016, none)]) [(500, 1008), (501, 1016), (510, 1000)] [(1024, 1008)] (put_b k us ss ns bs w w.length rfl (by omega) h0) Tryd.func24 (by kernel_rfl) rfl rfl rfl (⟨⟨_, rfl, rfl, rfl⟩, ⟨_, rfl, rfl, rfl⟩, ⟨_, rfl, rfl, rfl⟩, trivial⟩) (⟨⟨_, _, rfl, rfl, rfl, rfl, id, rfl⟩, ⟨_, _, rfl, rfl, rfl, rfl, id, rfl⟩, ⟨_, _, rfl, rfl, rfl, rfl, id, rfl⟩, trivial⟩) (⟨⟨500, _, rfl, rfl, rfl, rfl, .inr ⟨rfl, _, rfl, rfl⟩⟩, ⟨1008, _, rfl, rfl, rfl, rfl, .inl rfl⟩, ⟨510, _, rfl, rfl, rfl, rfl, .inr ⟨rfl, _, rfl, rfl⟩⟩, trivial⟩) (⟨(fun _ => ⟨1008, _, rfl, rfl⟩), (fun _ => ⟨1016, _, rfl, rfl⟩), (fun _ => ⟨1000, _, rfl, rfl⟩), trivial⟩) rfl) trivial rfl ?_
   refine .nil ?_
   show Ev _ _ _ _ _
   refine .region ?_
   refine .q (op_addI rfl rfl ⟨by omega, by omega⟩) trivial rfl ?_
   refine .q (op_move rfl) trivial rfl ?_
   refine .nil ?_
   have hwl : (w ++ boolB (bs.getD 0 false)).length = w.length + 1 := by rw [List.length_append, length_boolB]
   have he2 : encN (fieldsOf k) (EP.mk us0 ss0 ns0 bs0 [(ofI8 k)]) (j + 1) = EP.mk (us) (ss) (ns) (bs.drop 1) (w ++ boolB (bs.getD 0 false)) := by
    show putP _ _ = _; rw [he, h6]; rfl
   exact ⟨⟨j + 1, EP.mk (us) (ss) (ns) (bs.drop 1) (w ++ boolB (bs.getD 0 false)), by omega, he2, (show us.length = _ from by omega), (show ss.length = _ from by omega), (show ns.length = _ from by omega), (show (bs.drop 1).length = _ from by rw [List.length_drop]; omega), by rw [hwl]; omega, by rw [hwl]; have := sl 0; have := nl 0; have := joinB_le (ns.getD 0 []); omega, sl, nl⟩, by show (fieldsOf k).length - (j + 1) < (fieldsOf k).length - j; omega, StLe.mk [(1000, 1000), (1008, 1008), (1016, 1024)] rfl rfl ⟨⟨_, rfl, by first | rfl | (simp only [AV.ren]; congr 1; omega), rfl⟩, ⟨_, rfl, by first | rfl | (simp only [AV.ren]; congr 1; omega), rfl⟩, ⟨_, rfl, by first | rfl | (simp only [AV.ren]; congr 1; omega), rfl⟩, ⟨_, rfl, by first | rfl | (simp only [AV.ren]; congr 1; omega), rfl⟩, ⟨_, rfl, by first | rfl | (simp only [AV.ren]; congr 1; omega), rfl⟩, trivial⟩ ⟨⟨_, _, rfl, rfl, rfl, rfl, id, rfl⟩, ⟨_, _, rfl, rfl, (by show AV.agg [_, AV.sl _ 0 _ 1] = _; rw [hwl]; first | rfl | (congr 3; omega)), rfl, id, rfl⟩, ⟨_, _, rfl, rfl, rfl, rfl, id, rfl⟩, ⟨_, _, rfl, rfl, rfl, rfl, id, rfl⟩, ⟨_, _, rfl, rfl, rfl, rfl, id, rfl⟩, ⟨_, _, rfl, rfl, rfl, rfl, id, rfl⟩, ⟨_, _, rfl, rfl, rfl, rfl, id, rfl⟩, trivial⟩⟩
  ·refine .as (.u8 110) (congrArg AV.u8 h6) ?_
   have hjl : j < (fieldsOf k).length := by omega
   have ku := cnt_at [117] hjl
   rw [h6, show List.count (110 : UInt8) [117] = 0 by decide] at ku
   have ks := cnt_at [115, 99, 114] hjl
   rw [h6, show List.count (110 : UInt8) [115, 99, 114] = 0 by decide] at ks
   have kn := cnt_at [110] hjl
   rw [h6, show List.count (110 : UInt8) [110] = 1 by decide] at kn
   have kb := cnt_at [98] hjl
   rw [h6, show List.count (110 : UInt8) [98] = 0 by decide] at kb
   have h0 : 0 < ns.length := by omega
   refine .a (op_call (U := [(1008, some ⟨.agg [.ptr 1008 0, .sl 1024 0 (w.length + (4 + (joinB (ns.getD 0 [])).length)) 1], 56, true⟩), (1024, some ⟨.aggB (w ++ namesB (ns.getD 0 [])), 5, true⟩), (1000, some ⟨rowP k us ss (ns.drop 1) bs, 30, true⟩), (1016, none)]) [(500, 1008), (501, 1016), (510, 1000)] [(1024, 1008)] (put_n k us ss ns bs w w.length rfl (by omega) h0 (Nat.le_trans (nl 0).1 (by decide)) (nl 0).2) Tryd.func24 (by kernel_rfl) rfl rfl rfl (⟨⟨_, rfl, rfl, rfl⟩, ⟨_, rfl, rfl, rfl⟩, ⟨_, rfl, rfl, rfl⟩, trivial⟩) (⟨⟨_, _, rfl, rfl, rfl, rfl, id, rfl⟩, ⟨_, _, rfl, rfl, rfl, rfl, id, rfl⟩, ⟨_, _, rfl, rfl, rfl, rfl, id, rfl⟩, trivial⟩) (⟨⟨500, _, rfl, rfl, rfl, rfl, .inr ⟨rfl, _, rfl, rfl⟩⟩, ⟨1008, _, rfl, rfl, rfl, rfl, .inl rfl⟩, ⟨510, _, rfl, rfl, rfl, rfl, .inr ⟨rfl, _, rfl, rfl⟩⟩, trivial⟩) (⟨(fun _ => ⟨1008, _, rfl, rfl⟩), (fun _ => ⟨1016, _, rfl, rfl⟩), (fun _ => ⟨1000, _, rfl, rfl⟩), trivial⟩) rfl) trivial rfl ?_
   refine .nil ?_
   show Ev _ _ _ _ _
   refine .region ?_
   refine .q (op_addI rfl rfl ⟨by omega, by omega⟩) trivial rfl ?_
   refine .q (op_move rfl) trivial rfl ?_
   refine .nil ?_
   have hwl : (w ++ namesB (ns.getD 0 [])).length = w.length + (4 + (joinB (ns.getD 0 [])).length) := by rw [List.length_append, length_namesB]
   have he2 : encN (fieldsOf k) (EP.mk us0 ss0 ns0 bs0 [(ofI8 k)]) (j + 1) = EP.mk (us) (ss) (ns.drop 1) (bs) (w ++ namesB (ns.getD 0 [])) := by
    show putP _ _ = _; rw [he, h6]; rfl
   exact ⟨⟨j + 1, EP.mk (us) (ss) (ns.drop 1) (bs) (w ++ namesB (ns.getD 0 [])), by omega, he2, (show us.length = _ from by omega), (show ss.length = _ from by omega), (show (ns.drop 1).length = _ from by rw [List.length_drop]; omega), (show bs.length = _ from by omega), by rw [hwl]; omega, by rw [hwl]; have := sl 0; have := nl 0; have := joinB_le (ns.getD 0 []); omega, sl, fun i => by rw [show (ns.drop 1).getD i [] = ns.getD (i + 1) [] from getD_drop1 ns [] i]; exact nl _⟩, by show (fieldsOf k).length - (j + 1) < (fieldsOf k).length - j; omega, StLe.mk [(1000, 1000), (1008, 1008), (1016, 1024)] rfl rfl ⟨⟨_, rfl, by first | rfl | (simp only [AV.ren]; congr 1; omega), rfl⟩, ⟨_, rfl, by first | rfl | (simp only [AV.ren]; congr 1; omega), rfl⟩, ⟨_, rfl, by first | rfl | (simp only [AV.ren]; congr 1; omega), rfl⟩, ⟨_, rfl, by first | rfl | (simp only [AV.ren]; congr 1; omega), rfl⟩, ⟨_, rfl, by first | rfl | (simp only [AV.ren]; congr 1; omega), rfl⟩, trivial⟩ ⟨⟨_, _, rfl, rfl, rfl, rfl, id, rfl⟩, ⟨_, _, rfl, rfl, (by show AV.agg [_, AV.sl _ 0 _ 1] = _; rw [hwl]; first | rfl | (congr 3; omega)), rfl, id, rfl⟩, ⟨_, _, rfl, rfl, rfl, rfl, id, rfl⟩, ⟨_, _, rfl, rfl, rfl, rfl, id, rfl⟩, ⟨_, _, rfl, rfl, rfl, rfl, id, rfl⟩, ⟨_, _, rfl, rfl, rfl, rfl, id, rfl⟩, ⟨_, _, rfl, rfl, rfl, rfl, id, rfl⟩, trivial⟩⟩
  ·refine .as (.u8 115) (congrArg AV.u8 h6) ?_
   have hjl : j < (fieldsOf k).length := by omega
   have ku := cnt_at [117] hjl
   rw [h6, show List.count (115 : UInt8) [117] = 0 by decide] at ku
   have ks := cnt_at [115, 99, 114] hjl
   rw [h6, show List.count (115 : UInt8) [115, 99, 114] = 1 by decide] at ks
   have kn := cnt_at [110] hjl
   rw [h6, show List.count (115 : UInt8) [110] = 0 by decide] at kn
   have kb := cnt_at [98] hjl
   rw [h6, show List.count (115 : UInt8) [98] = 0 by decide] at kb
   have h0 : 0 < ss.length := by omega
   refine .a (op_call (U := [(1008, some ⟨.agg [.ptr 1008 0, .sl 1024 0 (w.length + 4 + (ss.getD 0 []).length) 1], 56, true⟩), (1024, some ⟨.aggB ((w ++ lenB (ss.getD 0 [])) ++ (ss.getD 0 [])), 5, true⟩), (1000, some ⟨rowP k us (ss.drop 1) ns bs, 30, true⟩), (1016, none)]) [(500, 1008), (501, 1016), (510, 1000)] [(1024, 1016)] (put_s k us ss ns bs w w.length rfl (by omega) h0 (Nat.le_trans (sl 0) (by decide))) Tryd.func24 (by kernel_rfl) rfl rfl rfl (⟨⟨_, rfl, rfl, rfl⟩, ⟨_, rfl, rfl, rfl⟩, ⟨_, rfl, rfl, rfl⟩, trivial⟩) (⟨⟨_, _, rfl, rfl, rfl, rfl, id, rfl⟩, ⟨_, _, rfl, rfl, rfl, rfl, id, rfl⟩, ⟨_, _, rfl, rfl, rfl, rfl, id, rfl⟩, trivial⟩) (⟨⟨500, _, rfl, rfl, rfl, rfl, .inr ⟨rfl, _, rfl, rfl⟩⟩, ⟨1016, _, rfl, rfl, rfl, rfl, .inl rfl⟩, ⟨510, _, rfl, rfl, rfl, rfl, .inr ⟨rfl, _, rfl, rfl⟩⟩, trivial⟩) (⟨(fun _ => ⟨1008, _, rfl, rfl⟩), (fun _ => ⟨1016, _, rfl, rfl⟩), (fun _ => ⟨1000, _, rfl, rfl⟩), trivial⟩) rfl) trivial rfl ?_
   refine .nil ?_
   show Ev _ _ _ _ _
   refine .region ?_
   refine .q (op_addI rfl rfl ⟨by omega, by omega⟩) trivial rfl ?_
   refine .q (op_move rfl) trivial rfl ?_
   refine .nil ?_
   have hwl : ((w ++ lenB (ss.getD 0 [])) ++ (ss.getD 0 [])).length = w.length + 4 + (ss.getD 0 []).length := by rw [List.length_append, List.length_append, length_lenB]
   have he2 : encN (fieldsOf k) (EP.mk us0 ss0 ns0 bs0 [(ofI8 k)]) (j + 1) = EP.mk (us) (ss.drop 1) (ns) (bs) ((w ++ lenB (ss.getD 0 [])) ++ (ss.getD 0 [])) := by
    show putP _ _ = _; rw [he, h6]; rfl
   exact ⟨⟨j + 1, EP.mk (us) (ss.drop 1) (ns) (bs) ((w ++ lenB (ss.getD 0 [])) ++ (ss.getD 0 [])), by omega, he2, (show us.length = _ from by omega), (show (ss.drop 1).length = _ from by rw [List.length_drop]; omega), (show ns.length = _ from by omega), (show bs.length = _ from by omega), by rw [hwl]; omega, by rw [hwl]; have := sl 0; have := nl 0; have := joinB_le (ns.getD 0 []); omega, fun i => by rw [show (ss.drop 1).getD i [] = ss.getD (i + 1) [] from getD_drop1 ss [] i]; exact sl _, nl⟩, by show (fieldsOf k).length - (j + 1) < (fieldsOf k).length - j; omega, StLe.mk [(1000, 1000), (1008, 1008), (1016, 1024)] rfl rfl ⟨⟨_, rfl, by first | rfl | (simp only [AV.ren]; congr 1; omega), rfl⟩, ⟨_, rfl, by first | rfl | (simp only [AV.ren]; congr 1; omega), rfl⟩, ⟨_, rfl, by first | rfl | (simp only [AV.ren]; congr 1; omega), rfl⟩, ⟨_, rfl, by first | rfl | (simp only [AV.ren]; congr 1; omega), rfl⟩, ⟨_, rfl, by first | rfl | (simp only [AV.ren]; congr 1; omega), rfl⟩, trivial⟩ ⟨⟨_, _, rfl, rfl, rfl, rfl, id, rfl⟩, ⟨_, _, rfl, rfl, (by show AV.agg [_, AV.sl _ 0 _ 1] = _; rw [hwl]; first | rfl | (congr 3; omega)), rfl, id, rfl⟩, ⟨_, _, rfl, rfl, rfl, rfl, id, rfl⟩, ⟨_, _, rfl, rfl, rfl, rfl, id, rfl⟩, ⟨_, _, rfl, rfl, rfl, rfl, id, rfl⟩, ⟨_, _, rfl, rfl, rfl, rfl, id, rfl⟩, ⟨_, _, rfl, rfl, rfl, rfl, id, rfl⟩, trivial⟩⟩
  ·refine .as (.u8 99) (congrArg AV.u8 h6) ?_
   have hjl : j < (fieldsOf k).length := by omega
   have ku := cnt_at [117] hjl
   rw [h6, show List.count (99 : UInt8) [117] = 0 by decide] at ku
   have ks := cnt_at [115, 99, 114] hjl
   rw [h6, show List.count (99 : UInt8) [115, 99, 114] = 1 by decide] at ks
   have kn := cnt_at [110] hjl
   rw [h6, show List.count (99 : UInt8) [110] = 0 by decide] at kn
   have kb := cnt_at [98] hjl
   rw [h6, show List.count (99 : UInt8) [98] = 0 by decide] at kb
   have h0 : 0 < ss.length := by omega
   refine .a (op_call (U := [(1008, some ⟨.agg [.ptr 1008 0, .sl 1024 0 (w.length + (ss.getD 0 []).length) 1], 56, true⟩), (1024, some ⟨.aggB (w ++ (ss.getD 0 [])), 5, true⟩), (1000, some ⟨rowP k us (ss.drop 1) ns bs, 30, true⟩), (1016, none)]) [(500, 1008), (501, 1016), (510, 1000)] [(1024, 1008)] (put_c k us ss ns bs w w.length rfl (by omega) h0 (Nat.le_trans (sl 0) (by decide))) Tryd.func24 (by kernel_rfl) rfl rfl rfl (⟨⟨_, rfl, rfl, rfl⟩, ⟨_, rfl, rfl, rfl⟩, ⟨_, rfl, rfl, rfl⟩, trivial⟩) (⟨⟨_, _, rfl, rfl, rfl, rfl, id, rfl⟩, ⟨_, _, rfl, rfl, rfl, rfl, id, rfl⟩, ⟨_, _, rfl, rfl, rfl, rfl, id, rfl⟩, trivial⟩) (⟨⟨500, _, rfl, rfl, rfl, rfl, .inr ⟨rfl, _, rfl, rfl⟩⟩, ⟨1008, _, rfl, rfl, rfl, rfl, .inl rfl⟩, ⟨510, _, rfl, rfl, rfl, rfl, .inr ⟨rfl, _, rfl, rfl⟩⟩, trivial⟩) (⟨(fun _ => ⟨1008, _, rfl, rfl⟩), (fun _ => ⟨1016, _, rfl, rfl⟩), (fun _ => ⟨1000, _, rfl, rfl⟩), trivial⟩) rfl) trivial rfl ?_
   refine .nil ?_
   show Ev _ _ _ _ _
   refine .region ?_
   refine .q (op_addI rfl rfl ⟨by omega, by omega⟩) trivial rfl ?_
   refine .q (op_move rfl) trivial rfl ?_
   refine .nil ?_
   have hwl : (w ++ (ss.getD 0 [])).length = w.length + (ss.getD 0 []).length := by rw [List.length_append]
   have he2 : encN (fieldsOf k) (EP.mk us0 ss0 ns0 bs0 [(ofI8 k)]) (j + 1) = EP.mk (us) (ss.drop 1) (ns) (bs) (w ++ (ss.getD 0 [])) := by
    show putP _ _ = _; rw [he, h6]; rfl
   exact ⟨⟨j + 1, EP.mk (us) (ss.drop 1) (ns) (bs) (w ++ (ss.getD 0 [])), by omega, he2, (show us.length = _ from by omega), (show (ss.drop 1).length = _ from by rw [List.length_drop]; omega), (show ns.length = _ from by omega), (show bs.length = _ from by omega), by rw [hwl]; omega, by rw [hwl]; have := sl 0; have := nl 0; have := joinB_le (ns.getD 0 []); omega, fun i => by rw [show (ss.drop 1).getD i [] = ss.getD (i + 1) [] from getD_drop1 ss [] i]; exact sl _, nl⟩, by show (fieldsOf k).length - (j + 1) < (fieldsOf k).length - j; omega, StLe.mk [(1000, 1000), (1008, 1008), (1016, 1024)] rfl rfl ⟨⟨_, rfl, by first | rfl | (simp only [AV.ren]; congr 1; omega), rfl⟩, ⟨_, rfl, by first | rfl | (simp only [AV.ren]; congr 1; omega), rfl⟩, ⟨_, rfl, by first | rfl | (simp only [AV.ren]; congr 1; omega), rfl⟩, ⟨_, rfl, by first | rfl | (simp only [AV.ren]; congr 1; omega), rfl⟩, ⟨_, rfl, by first | rfl | (simp only [AV.ren]; congr 1; omega), rfl⟩, trivial⟩ ⟨⟨_, _, rfl, rfl, rfl, rfl, id, rfl⟩, ⟨_, _, rfl, rfl, (by show AV.agg [_, AV.sl _ 0 _ 1] = _; rw [hwl]; first | rfl | (congr 3; omega)), rfl, id, rfl⟩, ⟨_, _, rfl, rfl, rfl, rfl, id, rfl⟩, ⟨_, _, rfl, rfl, rfl, rfl, id, rfl⟩, ⟨_, _, rfl, rfl, rfl, rfl, id, rfl⟩, ⟨_, _, rfl, rfl, rfl, rfl, id, rfl⟩, ⟨_, _, rfl, rfl, rfl, rfl, id, rfl⟩, trivial⟩⟩
  ·refine .as (.u8 114) (congrArg AV.u8 h6) ?_
   have hjl : j < (fieldsOf k).length := by omega
   have ku := cnt_at [117] hjl
   rw [h6, show List.count (114 : UInt8) [117] = 0 by decide] at ku
   have ks := cnt_at [115, 99, 114] hjl
   rw [h6, show List.count (114 : UInt8) [115, 99, 114] = 1 by decide] at ks
   have kn := cnt_at [110] hjl
   rw [h6, show List.count (114 : UInt8) [110] = 0 by decide] at kn
   have kb := cnt_at [98] hjl
   rw [h6, show List.count (114 : UInt8) [98] = 0 by decide] at kb
   have h0 : 0 < ss.length := by omega
   refine .a (op_call (U := [(1008, some ⟨.agg [.ptr 1008 0, .sl 1024 0 (w.length + (ss.getD 0 []).length) 1], 56, true⟩), (1024, some ⟨.aggB (w ++ (ss.getD 0 [])), 5, true⟩), (1000, some ⟨rowP k us (ss.drop 1) ns bs, 30, true⟩), (1016, none)]) [(500, 1008), (501, 1016), (510, 1000)] [(1024, 1008)] (put_r k us ss ns bs w w.length rfl (by omega) h0 (Nat.le_trans (sl 0) (by decide))) Tryd.func24 (by kernel_rfl) rfl rfl rfl (⟨⟨_, rfl, rfl, rfl⟩, ⟨_, rfl, rfl, rfl⟩, ⟨_, rfl, rfl, rfl⟩, trivial⟩) (⟨⟨_, _, rfl, rfl, rfl, rfl, id, rfl⟩, ⟨_, _, rfl, rfl, rfl, rfl, id, rfl⟩, ⟨_, _, rfl, rfl, rfl, rfl, id, rfl⟩, trivial⟩) (⟨⟨500, _, rfl, rfl, rfl, rfl, .inr ⟨rfl, _, rfl, rfl⟩⟩, ⟨1008, _, rfl, rfl, rfl, rfl, .inl rfl⟩, ⟨510, _, rfl, rfl, rfl, rfl, .inr ⟨rfl, _, rfl, rfl⟩⟩, trivial⟩) (⟨(fun _ => ⟨1008, _, rfl, rfl⟩), (fun _ => ⟨1016, _, rfl, rfl⟩), (fun _ => ⟨1000, _, rfl, rfl⟩), trivial⟩) rfl) trivial rfl ?_
   refine .nil ?_
   show Ev _ _ _ _ _
   refine .region ?_
   refine .q (op_addI rfl rfl ⟨by omega, by omega⟩) trivial rfl ?_
   refine .q (op_move rfl) trivial rfl ?_
   refine .nil ?_
   have hwl : (w ++ (ss.getD 0 [])).length = w.length + (ss.getD 0 []).length := by rw [List.length_append]
   have he2 : encN (fieldsOf k) (EP.mk us0 ss0 ns0 bs0 [(ofI8 k)]) (j + 1) = EP.mk (us) (ss.drop 1) (ns) (bs) (w ++ (ss.getD 0 [])) := by
    show putP _ _ = _; rw [he, h6]; rfl
   exact ⟨⟨j + 1, EP.mk (us) (ss.drop 1) (ns) (bs) (w ++ (ss.getD 0 [])), by omega, he2, (show us.length = _ from by omega), (show (ss.drop 1).length = _ from by rw [List.length_drop]; omega), (show ns.length = _ from by omega), (show bs.length = _ from by omega), by rw [hwl]; omega, by rw [hwl]; have := sl 0; have := nl 0; have := joinB_le (ns.getD 0 []); omega, fun i => by rw [show (ss.drop 1).getD i [] = ss.getD (i + 1) [] from getD_drop1 ss [] i]; exact sl _, nl⟩, by show (fieldsOf k).length - (j + 1) < (fieldsOf k).length - j; omega, StLe.mk [(1000, 1000), (1008, 1008), (1016, 1024)] rfl rfl ⟨⟨_, rfl, by first | rfl | (simp only [AV.ren]; congr 1; omega), rfl⟩, ⟨_, rfl, by first | rfl | (simp only [AV.ren]; congr 1; omega), rfl⟩, ⟨_, rfl, by first | rfl | (simp only [AV.ren]; congr 1; omega), rfl⟩, ⟨_, rfl, by first | rfl | (simp only [AV.ren]; congr 1; omega), rfl⟩, ⟨_, rfl, by first | rfl | (simp only [AV.ren]; congr 1; omega), rfl⟩, trivial⟩ ⟨⟨_, _, rfl, rfl, rfl, rfl, id, rfl⟩, ⟨_, _, rfl, rfl, (by show AV.agg [_, AV.sl _ 0 _ 1] = _; rw [hwl]; first | rfl | (congr 3; omega)), rfl, id, rfl⟩, ⟨_, _, rfl, rfl, rfl, rfl, id, rfl⟩, ⟨_, _, rfl, rfl, rfl, rfl, id, rfl⟩, ⟨_, _, rfl, rfl, rfl, rfl, id, rfl⟩, ⟨_, _, rfl, rfl, rfl, rfl, id, rfl⟩, ⟨_, _, rfl, rfl, rfl, rfl, id, rfl⟩, trivial⟩⟩
 ·simp only [decide_eq_false_iff_not] at hc23
  refine .exit ?_
  show Ev _ _ _ _ _
  have ej : j = (fieldsOf k).length := by omega
  subst ej
  refine .seq ?_
  refine .region ?_
  refine .a (op_call (U := [(1016, some ⟨.aggB w, (frz + 5), false⟩)]) [(500, 1008), (501, 1016)] [] (bytes2_ev w w.length rfl w0 (by omega)) Tryd.func25 (by kernel_rfl) rfl rfl rfl (⟨⟨_, rfl, rfl, rfl⟩, trivial⟩) (⟨⟨_, _, rfl, rfl, rfl, rfl, (fun h => by cases h), rfl⟩, ⟨_, _, rfl, rfl, rfl, rfl, id, rfl⟩, trivial⟩) (⟨⟨501, _, rfl, rfl, rfl, rfl, .inr ⟨rfl, _, rfl, rfl⟩⟩, trivial⟩) (⟨(fun h => by cases h), (fun _ => ⟨1016, _, rfl, rfl⟩), trivial⟩) rfl) trivial rfl ?_
  refine .q (op_assign rfl) trivial rfl ?_
  refine .nil ?_
  show Ev _ _ _ _ _
  refine .ret ?_
  show RetOk _ _ _ _ _ _ _
  exact ret1v rfl (.inl rfl) rfl (congrArg AV.str (by show w = EP.w _; rw [he])) trivial
end Go.Proofs.YtenocbhlbgcnfaaDoor
