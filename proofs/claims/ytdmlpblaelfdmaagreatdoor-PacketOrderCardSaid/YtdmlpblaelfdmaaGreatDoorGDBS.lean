/-
  Texts of this claim.
-/
import Derived.Test.YtdmlpblaelfdmaaGreatDoorGD5S
import Derived.Test.YtdmlpblaelfdmaaGreatDoorGDAS
import Derived.Test.YtdmlpblaelfdmaaGreatDoorGPAS
namespace Go.Proofs.YtdmlpblaelfdmaaGreatDoor
open Go.RowKit
def restV (fp : List UInt8 × Nat × Nat) (s : List UInt8) : List UInt8 := if fp.2.2 = 0 then s.drop fp.2.1 else []
def okV (fp : List UInt8 × Nat × Nat) : Bool := fp.2.2 == 0 && fp.2.1 != 0
set_option maxRecDepth 100000 in
theorem wrap_ev (ws : List UInt8) (x : Nat) (eo : Nat → Nat × Nat) : Meets Tryz.prog 46 [.str ws, .err 269 (x + 1) (offE eo (x + 1))] [] (.ifc 102 (.ptr 1000 0)) [(1000, some ⟨.agg [.str ws, .err 269 (x + 1) (offE eo (x + 1))], 106, true⟩)] := by
 refine meets_of_ev (nt := 12) Tryz.func46 rfl rfl (Nat.le_of_ble_eq_true rfl) ?_
 refine .seq ?_
 refine .region ?_
 refine .q (op_assign rfl) trivial rfl ?_
 refine .nil ?_
 show Ev _ _ _ _ _
 refine .seq ?_
 refine .seq ?_
 refine .region ?_
 refine .q (op_move rfl) trivial rfl ?_
 refine .q (op_eqErrNil (e := x + 1) Tryz.underlying36 rfl rfl) trivial rfl ?_
 refine .nil ?_
 show Ev _ _ _ _ _
 refine .cond_false rfl (rfl) ?_
 refine .skip ?_
 show Ev _ _ _ _ _
 refine .seq ?_
 refine .region ?_
 refine .q (op_move rfl) trivial rfl ?_
 refine .q (op_move rfl) trivial rfl ?_
 refine .q (op_buildS (r := .agg _) Tryz.underlying106 rfl zero106 rel_zero106 rfl rfl rfl rfl) trivial rfl ?_
 refine .a (op_boxRow rfl rfl) trivial rfl ?_
 refine .q (op_makeIface (by kernel_rfl) rfl) trivial rfl ?_
 refine .q (op_assign rfl) trivial rfl ?_
 refine .nil ?_
 show Ev _ _ _ _ _
 refine .ret ?_
 show RetOk _ _ _ _ _ _ _
 exact ret1v rfl (.inl rfl) rfl rfl ⟨rfl, trivial⟩
set_option maxRecDepth 100000 in
theorem next_bad_t (e : Nat) (key : List UInt8) (hk : key.length = 32) (n : UInt64) (q k : Nat) (l : List UInt8) (hq : q + k = l.length) (hl : l.length ≤ 1000000) (x : Nat) (hE : (firstP true key n (l.drop q)).2.2 = x + 1) (eo : Nat → Nat × Nat) : Meets Tryz.prog 21 [.ptr 500 0] [(500, some ⟨dC true key n ([.sl 501 (q) (k) 1, .err 269 (0) (offE eo (0))]), 44, true⟩), (501, some ⟨.aggB l, 5, false⟩), (22, some ⟨.aggI qsTab, e, false⟩), (0, some ⟨.agg [.err 269 (2) (offE eo (2))], errT, false⟩), (3, some ⟨.agg [.err 269 (3) (offE eo (3))], errT, false⟩), (1, some ⟨.agg [.err 269 (4) (offE eo (4))], errT, false⟩), (4, some ⟨.agg [.err 269 (5) (offE eo (5))], errT, false⟩)] (.tup [.str [], .bool false, .ifc 102 (.ptr 1000 0)]) [(500, some ⟨dC true key n ([.nilsl, .ifc 102 (.ptr 1000 0)]), 44, true⟩), (1000, some ⟨.agg [.str [112, 97, 99, 107, 101, 116], .err 269 (x + 1) (offE eo (x + 1))], 106, true⟩)] := by
 refine meets_of_ev (nt := 58) Tryz.func21 rfl rfl (Nat.le_of_ble_eq_true rfl) ?_
 refine .seq ?_
 refine .region ?_
 refine .q (op_assign rfl) trivial rfl ?_
 refine .q (op_assign rfl) trivial rfl ?_
 refine .q (op_assign rfl) trivial rfl ?_
 refine .nil ?_
 show Ev _ _ _ _ _
 refine .seq ?_
 refine .seq ?_
 refine .region ?_
 refine .q (op_move rfl) trivial rfl ?_
 refine .q (op_nilCheck rfl) trivial rfl ?_
 refine .q (op_fieldAddr (m := 0) Tryz.underlying44 rfl (by kernel_rfl) rfl) trivial rfl ?_
 refine .as (.ptr 500 35) rfl ?_
 refine .q (op_load Tryz.underlying36 rfl rfl rfl rfl (dC_ltt (i := 1) (by simp))) trivial rfl ?_
 refine .q (op_eqErrNil (e := 0) Tryz.underlying36 rfl rfl) trivial rfl ?_
 refine .nil ?_
 show Ev _ _ _ _ _
 refine .cond_false rfl (rfl) ?_
 refine .skip ?_
 show Ev _ _ _ _ _
 refine .seq ?_
 refine .region ?_
 refine .q (op_move rfl) trivial rfl ?_
 refine .q (op_call (U := []) [(500, 500), (501, 501)] [] (first_t e key hk n q k l hq hl eo) Tryz.func45 (by kernel_rfl) rfl rfl rfl (⟨⟨_, rfl, rfl, rfl⟩, trivial⟩) (⟨⟨_, _, rfl, rfl, rfl, rfl, (fun h => by cases h), rfl⟩, ⟨_, _, rfl, rfl, rfl, rfl, (fun h => by cases h), rfl⟩, ⟨_, _, rfl, rfl, rfl, rfl, (fun h => by cases h), rfl⟩, ⟨_, _, rfl, rfl, rfl, rfl, (fun h => by cases h), rfl⟩, ⟨_, _, rfl, rfl, rfl, rfl, (fun h => by cases h), rfl⟩, ⟨_, _, rfl, rfl, rfl, rfl, (fun h => by cases h), rfl⟩, ⟨_, _, rfl, rfl, rfl, rfl, (fun h => by cases h), rfl⟩, trivial⟩) (trivial) (⟨(fun h => by cases h), (fun h => by cases h), (fun h => by cases h), (fun h => by cases h), (fun h => by cases h), (fun h => by cases h), (fun h => by cases h), trivial⟩) rfl) trivial rfl ?_
 refine .q (op_move rfl) trivial rfl ?_
 refine .q (op_extract rfl rfl) trivial rfl ?_
 refine .q (op_extract rfl rfl) trivial rfl ?_
 refine .q (op_extract rfl rfl) trivial rfl ?_
 refine .as (.err 269 (x + 1) (offE eo (x + 1))) (erv_eq hE) ?_
 refine .q (op_assign rfl) trivial rfl ?_
 refine .q (op_assign rfl) trivial rfl ?_
 refine .q (op_assign rfl) trivial rfl ?_
 refine .nil ?_
 show Ev _ _ _ _ _
 refine .seq ?_
 refine .seq ?_
 refine .region ?_
 refine .q (op_move rfl) trivial rfl ?_
 refine .q (op_eqErrNil (e := x + 1) Tryz.underlying36 rfl rfl) trivial rfl ?_
 refine .nil ?_
 show Ev _ _ _ _ _
 refine .cond_true rfl (rfl) ?_
 refine .seq ?_
 refine .region ?_
 refine .q (op_move rfl) trivial rfl ?_
 refine .q (op_nilCheck rfl) trivial rfl ?_
 refine .q (op_fieldAddr (m := 0) Tryz.underlying44 rfl (by kernel_rfl) rfl) trivial rfl ?_
 refine .as (.ptr 500 34) rfl ?_
 refine .w (op_store (c' := dC true key n [.nilsl, .err 269 (0) (offE eo (0))]) rfl rfl rfl rfl rfl rfl (dC_ltt (i := 0) (by simp))) trivial rfl ?_
 refine .nil ?_
 show Ev _ _ _ _ _
 refine .seq ?_
 refine .region ?_
 refine .q (op_move rfl) trivial rfl ?_
 refine .q (op_move rfl) trivial rfl ?_
 refine .a (op_call (U := [(1000, some ⟨.agg [.str [112, 97, 99, 107, 101, 116], .err 269 (x + 1) (offE eo (x + 1))], 106, true⟩)]) [] [(1000, 1000)] (wrap_ev [112, 97, 99, 107, 101, 116] x eo) Tryz.func46 (by kernel_rfl) rfl rfl rfl (⟨⟨_, rfl, rfl, rfl⟩, ⟨_, rfl, rfl, rfl⟩, trivial⟩) (trivial) (⟨⟨1000, _, rfl, rfl, rfl, rfl, .inl rfl⟩, trivial⟩) (trivial) rfl) trivial rfl ?_
 refine .q (op_nilCheck rfl) trivial rfl ?_
 refine .q (op_fieldAddr (m := 0) Tryz.underlying44 rfl (by kernel_rfl) rfl) trivial rfl ?_
 refine .as (.ptr 500 35) rfl ?_
 refine .w (op_store (c' := dC true key n ([.nilsl, .ifc 102 (.ptr 1000 0)])) rfl rfl rfl rfl rfl rfl (dC_ltt (i := 1) (by simp))) trivial rfl ?_
 refine .nil ?_
 show Ev _ _ _ _ _
 refine .seq ?_
 refine .drawn [[], [0], [0, 1], [0, 1, 2], [], [4], [0, 1, 2, 3, 4, 5]] [3] [] (by kernel_rfl) (by kernel_rfl) rfl ?_
 show DK _ [0, 1, 2, 3, 4, 5, 6] _ _ _
 refine .q rfl (op_move rfl) trivial ?_
 refine .q rfl (op_nilCheck rfl) trivial ?_
 refine .q rfl (op_fieldAddr (m := 0) Tryz.underlying44 rfl (by kernel_rfl) rfl) trivial ?_
 refine .as (.ptr 500 35) rfl ?_
 refine .q rfl (op_load Tryz.underlying36 rfl rfl rfl rfl (dC_ltt (i := 1) (by simp))) trivial ?_
 refine .q rfl (op_assign rfl) trivial ?_
 refine .q rfl (op_assign rfl) trivial ?_
 refine .q rfl (op_assign rfl) trivial ?_
 refine .nil ?_
 show Ev _ _ _ _ _
 refine .ret ?_
 show RetOk _ _ _ _ _ _ _
 exact ret3v rfl (.inl rfl) rfl rfl rfl rfl rfl rfl ⟨rfl, rfl, trivial⟩
theorem ropen12_ev (key : List UInt8) (hk : key.length = 32) (n : UInt64) (box head : List UInt8) (hB : box.length ≤ 1000000) (hH : head.length ≤ 1000000) (h16 : 16 ≤ box.length) : Meets Tryz.prog 44 [.str key, .str (nonceP n), .str box, .str head] [] (.tup [.str (openP true key n box head).1, .i64 (((openP true key n box head).2 : Nat) : Int)]) [] := by
 by_cases hTag : box.drop (box.length - 16) = (tagL key (nonceP n) (box.take (box.length - 16)) head)
 ·rw [show openP true key n box head = (cXor key (UInt32.ofNat 1) (nonceP n) (box.take (box.length - 16)), 0) from if_pos hTag]; exact ropen_ok key (nonceP n) box head hk (length_nonceP n) hB hH (by omega) hTag
 ·rw [show openP true key n box head = ([], 5) from if_neg hTag]; exact ropen_mac key (nonceP n) box head hk (length_nonceP n) hB hH (by omega) hTag
def bigN (s : List UInt8) : Nat → Nat
 | 0 => 0
 | k + 1 => 256 * bigN s k + (s.getD k 0).toNat
theorem bigN_lt (s : List UInt8) (k : Nat) : bigN s k < 256 ^ k := by
 induction k with
 | zero => exact (by decide : 0 < 256 ^ 0)
 | succ k ih =>
  have := (s.getD k 0).toNat_lt
  show 256 * bigN s k + _ < _
  rw [Nat.pow_succ]; omega
theorem bigN_4 {s : List UInt8} (h : ¬ s.length < 4) : bigN s 4 = lenP s := by
 match s, h with
 | a :: b :: c :: d :: r, _ =>
  show ((256 * (256 * (256 * (256 * 0 + a.toNat) + b.toNat) + c.toNat)) + d.toNat) = (numV [a, b, c, d]).toUInt32.toNat
  have := numV4B a b c d
  have ha := a.toNat_lt
  have hb := b.toNat_lt
  have hc := c.toNat_lt
  have hd := d.toNat_lt
  rw [UInt64.toNat_toUInt32, this]; omega
 | [], h => simp at h
 | [_], h => simp at h
 | [_, _], h => simp at h
 | [_, _, _], h => simp at h
set_option maxHeartbeats 1000000 in
set_option maxRecDepth 100000 in
theorem rread_t (key : List UInt8) (hk : key.length = 32) (c : Int) (n : UInt64) (hn : ofI64 c = n) (s : List UInt8) (hs : s.length ≤ 1000000) : Meets Tryz.prog 20 [.str s, .str key, .i64 c] [] (.tup [.str (firstP true key n s).1, .str (restV (firstP true key n s) s), .bool (okV (firstP true key n s)), .i64 (((firstP true key n s).2.2 : Nat) : Int)]) [] := by
 have hk0 : key ≠ [] := fun h => by rw [h] at hk; simp at hk
 refine meets_of_ev (nt := 111) Tryz.func20 rfl rfl (Nat.le_of_ble_eq_true rfl) ?_
 refine .seq ?_
 refine .region ?_
 refine .q (op_assign rfl) trivial rfl ?_
 refine .q (op_assign rfl) trivial rfl ?_
 refine .q (op_assign rfl) trivial rfl ?_
 refine .q (op_assign rfl) trivial rfl ?_
 refine .nil ?_
 show Ev _ _ _ _ _
 refine .seq ?_
 refine .seq ?_
 refine .region ?_
 refine .q (op_move rfl) trivial rfl ?_
 refine .q (op_len_str Tryz.underlying9 rfl) trivial rfl ?_
 refine .q (op_cmpI rfl rfl rfl) trivial rfl ?_
 refine .nil ?_
 show Ev _ _ _ _ _
 refine .cond rfl (fun hc19 => ?_) (fun hc19 => ?_)
 ·simp only [decide_eq_true_eq] at hc19
  refine .seq ?_
  refine .region ?_
  refine .q (op_move rfl) trivial rfl ?_
  refine .q (op_assign rfl) trivial rfl ?_
  refine .q (op_assign rfl) trivial rfl ?_
  refine .q (op_assign rfl) trivial rfl ?_
  refine .q (op_assign rfl) trivial rfl ?_
  refine .nil ?_
  show Ev _ _ _ _ _
  refine .ret ?_
  show RetOk _ _ _ _ _ _ _
  (have hF := firstP_0 (b := true) (key := key) (n := n) (s := s) (by omega); exact ret4v rfl (.inl rfl) rfl rfl rfl rfl (by rw [hF] <;> rfl) (by rw [hF] <;> (first | rfl | (simp [restV]; done) | (simp only [restV]; rw [if_neg (by omega)]; done))) (by rw [hF] <;> (first | rfl | (simp [okV]; done) | (simp [okV]; omega))) (by rw [hF] <;> (first | rfl | simp)) trivial)
 ·simp only [decide_eq_false_iff_not] at hc19
  refine .skip ?_
  show Ev _ _ _ _ _
  refine .seq ?_
  have h19 : ¬ s.length < 4 := by omega
  refine .region ?_
  refine .q (op_assign rfl) trivial rfl ?_
  refine .nil ?_
  show Ev _ _ _ _ _
  refine .seq ?_
  refine .seq ?_
  refine .region ?_
  refine .q (op_assign rfl) trivial rfl ?_
  refine .nil ?_
  show Ev _ _ _ _ _
  refine .block ?_
  refine Ev.loop (ι := { k : Nat // k ≤ 4 }) (fun q => ⟨[(0, .str s), (1, .str key), (2, .i64 c), (10, .i64 ((bigN s q.1 : Nat) : Int)), (11, .i64 ((q.1 : Nat) : Int))], [], 1000⟩) (fun q => 4 - q.1) ⟨0, Nat.zero_le _⟩ (StLe.mk [] rfl rfl ⟨⟨_, rfl, by first | rfl | (simp only [AV.ren]; congr 1; omega), rfl⟩, ⟨_, rfl, by first | rfl | (simp only [AV.ren]; congr 1; omega), rfl⟩, ⟨_, rfl, by first | rfl | (simp only [AV.ren]; congr 1; omega), rfl⟩, ⟨_, rfl, by first | rfl | (simp only [AV.ren]; congr 1; omega), rfl⟩, ⟨_, rfl, by first | rfl | (simp only [AV.ren]; congr 1; omega), rfl⟩, trivial⟩ trivial) ?_
  rintro ⟨k, hk4⟩
  try dsimp only
  try simp only at hk4
  have hbn := bigN_lt s k
  have hp4 : 256 ^ k ≤ 4294967296 := Nat.le_trans (Nat.pow_le_pow_right (show 0 < 256 by decide) hk4) (by decide)
  have hb8 : (s.getD k 0).toNat < 256 := (s.getD k 0).toNat_lt
  refine .seq ?_
  refine .seq ?_
  refine .region ?_
  refine .q (op_move rfl) trivial rfl ?_
  refine .q (op_cmpI rfl rfl rfl) trivial rfl ?_
  refine .nil ?_
  show Ev _ _ _ _ _
  refine .cond rfl (fun hc22 => ?_) (fun hc22 => ?_)
  ·simp only [decide_eq_true_eq] at hc22
   refine .skip ?_
   show Ev _ _ _ _ _
   refine .seq ?_
   refine .block ?_
   refine .region ?_
   refine .q (op_move rfl) trivial rfl ?_
   refine .q (op_mulI rfl rfl ⟨by omega, by omega⟩) trivial rfl ?_
   refine .q (op_move rfl) trivial rfl ?_
   refine .q (op_move rfl) trivial rfl ?_
   refine .q (op_index_str Tryz.underlying9 rfl rfl rfl (by omega)) trivial rfl ?_
   refine .q (op_conv Tryz.underlying5 Tryz.underlying3 rfl rfl) trivial rfl ?_
   refine .q (op_addI rfl rfl ⟨by omega, by omega⟩) trivial rfl ?_
   refine .q (op_assign rfl) trivial rfl ?_
   refine .nil ?_
   show Ev _ _ _ _ _
   refine .region ?_
   refine .q (op_move rfl) trivial rfl ?_
   refine .q (op_addI rfl rfl ⟨by omega, by omega⟩) trivial rfl ?_
   refine .q (op_assign rfl) trivial rfl ?_
   refine .nil ?_
   exact ⟨⟨k + 1, by omega⟩, by (try dsimp only); omega, StLe.mk [] rfl rfl ⟨⟨_, rfl, by first | rfl | (simp only [AV.ren]; congr 1; omega), rfl⟩, ⟨_, rfl, by first | rfl | (simp only [AV.ren]; congr 1; omega), rfl⟩, ⟨_, rfl, by first | rfl | (simp only [AV.ren]; congr 1; omega), rfl⟩, ⟨_, rfl, by first | rfl | (simp only [AV.ren]; congr 1), rfl⟩, ⟨_, rfl, by first | rfl | (simp only [AV.ren]; congr 1; omega), rfl⟩, trivial⟩ trivial⟩
  ·simp only [decide_eq_false_iff_not] at hc22
   refine .exit ?_
   show Ev _ _ _ _ _
   refine .seq ?_
   refine .seq ?_
   have ek : k = 4 := by omega
   subst ek
   have hl4 := bigN_4 h19
   have hmx : lenP s < 4294967296 := by rw [← hl4]; exact hbn
   have htg : tagP true = 16 := rfl
   have hsz : (sizeP true s) = 4 + (lenP s) + 16 := rfl
   have hle : leastP true = 8 := rfl
   have hah : aheadP true = 0 := rfl
   refine Ev.weak (st2 := ⟨[(0, .str s), (1, .str key), (2, .i64 c), (10, .i64 (((lenP s) : Nat) : Int))], [], 1000⟩) (StLe.mk [] rfl rfl ⟨⟨_, rfl, by rfl, rfl⟩, ⟨_, rfl, by rfl, rfl⟩, ⟨_, rfl, by rfl, rfl⟩, ⟨_, rfl, by (exact congrArg (fun z : Nat => AV.i64 (z : Int)) hl4), rfl⟩, trivial⟩ trivial) ?_
   refine .region ?_
   refine .q (op_move rfl) trivial rfl ?_
   refine .q (op_cmpI rfl rfl rfl) trivial rfl ?_
   refine .nil ?_
   show Ev _ _ _ _ _
   refine .cond rfl (fun hc33 => ?_) (fun hc33 => ?_)
   ·simp only [decide_eq_true_eq] at hc33
    refine .seq ?_
    refine .region ?_
    refine .q (op_assign rfl) trivial rfl ?_
    refine .q (op_assign rfl) trivial rfl ?_
    refine .q (op_assign rfl) trivial rfl ?_
    refine .q (op_assign rfl) trivial rfl ?_
    refine .nil ?_
    show Ev _ _ _ _ _
    refine .ret ?_
    show RetOk _ _ _ _ _ _ _
    (have hb4 : badP true s = 4 := badN_4 (b := true) (m := lenP s) (by omega); have hF := (firstP_1 (b := true) (key := key) (n := n) (s := s) h19 (by rw [hb4]; decide)).trans (by rw [hb4]); exact ret4v rfl (.inl rfl) rfl rfl rfl rfl (by rw [hF] <;> rfl) (by rw [hF] <;> (first | rfl | (simp [restV]; done) | (simp only [restV]; rw [if_neg (by omega)]; done))) (by rw [hF] <;> (first | rfl | (simp [okV]; done) | (simp [okV]; omega))) (by rw [hF] <;> (first | rfl | simp)) trivial)
   ·simp only [decide_eq_false_iff_not] at hc33
    refine .skip ?_
    show Ev _ _ _ _ _
    refine .seq ?_
    refine .seq ?_
    refine .region ?_
    refine .q (op_move rfl) trivial rfl ?_
    refine .q (op_eqS rfl rfl rfl) trivial rfl ?_
    refine .q (op_move rfl) trivial rfl ?_
    refine .know (b' := false) (beq_eq_false_iff_ne.2 hk0) ?_
    refine .no ⟨_, rfl, rfl⟩ rfl ?_
    refine .no ⟨_, rfl, rfl⟩ rfl ?_
    refine .no ⟨_, rfl, rfl⟩ rfl ?_
    refine .noU ⟨_, rfl, rfl⟩ rfl ?_
    refine .noU ⟨_, rfl, rfl⟩ rfl ?_
    refine .noU ⟨_, rfl, rfl⟩ rfl ?_
    refine .noU ⟨_, rfl, rfl⟩ rfl ?_
    refine .no ⟨_, rfl, rfl⟩ rfl ?_
    refine .q (op_pick_false rfl rfl rfl) trivial rfl ?_
    refine .q (op_move rfl) trivial rfl ?_
    refine .q (op_move rfl) ⟨_, rfl, rfl⟩ rfl ?_
    refine .q (op_eqS rfl rfl rfl) ⟨_, rfl, rfl⟩ rfl ?_
    refine .q (op_move rfl) ⟨_, rfl, rfl⟩ rfl ?_
    refine .know (b' := true) (bne_iff_ne.2 hk0) ?_
    refine .q (op_move rfl) ⟨_, rfl, rfl⟩ rfl ?_
    refine .q (op_cmpI rfl rfl rfl) ⟨_, rfl, rfl⟩ rfl ?_
    refine .q (op_move rfl) ⟨_, rfl, rfl⟩ rfl ?_
    refine .split (fun hg52 => ?_) (fun hg52 => ?_)
    ·simp only [decide_eq_true_eq] at hg52
     refine .no ⟨_, rfl, rfl⟩ rfl ?_
     refine .no ⟨_, rfl, rfl⟩ rfl ?_
     refine .no ⟨_, rfl, rfl⟩ rfl ?_
     refine .q (op_pick_true rfl rfl rfl) ⟨_, rfl, rfl⟩ rfl ?_
     refine .q (op_pick_true rfl rfl rfl) ⟨_, rfl, rfl⟩ rfl ?_
     refine .q (op_pick_false rfl rfl rfl) trivial rfl ?_
     refine .nil ?_
     show Ev _ _ _ _ _
     refine .cond_true rfl rfl ?_
     refine .seq ?_
     refine .region ?_
     refine .q (op_assign rfl) trivial rfl ?_
     refine .q (op_assign rfl) trivial rfl ?_
     refine .q (op_assign rfl) trivial rfl ?_
     refine .q (op_assign rfl) trivial rfl ?_
     refine .nil ?_
     show Ev _ _ _ _ _
     refine .ret ?_
     show RetOk _ _ _ _ _ _ _
     (have hb3 : badP true s = 3 := badN_3 (b := true) (m := lenP s) (by omega) (by omega); have hF := (firstP_1 (b := true) (key := key) (n := n) (s := s) h19 (by rw [hb3]; decide)).trans (by rw [hb3]); exact ret4v rfl (.inl rfl) rfl rfl rfl rfl (by rw [hF] <;> rfl) (by rw [hF] <;> (first | rfl | (simp [restV]; done) | (simp only [restV]; rw [if_neg (by omega)]; done))) (by rw [hF] <;> (first | rfl | (simp [okV]; done) | (simp [okV]; omega))) (by rw [hF] <;> (first | rfl | simp)) trivial)
    ·simp only [decide_eq_false_iff_not] at hg52
     refine .q (op_move rfl) ⟨_, rfl, rfl⟩ rfl ?_
     refine .q (op_remI rfl rfl ⟨by omega, by omega⟩) ⟨_, rfl, rfl⟩ rfl ?_
     refine .q (op_cmpI rfl rfl rfl) ⟨_, rfl, rfl⟩ rfl ?_
     refine .q (op_pick_false rfl rfl rfl) ⟨_, rfl, rfl⟩ rfl ?_
     refine .q (op_pick_true rfl rfl rfl) ⟨_, rfl, rfl⟩ rfl ?_
     refine .q (op_pick_false rfl rfl rfl) trivial rfl ?_
     refine .nil ?_
     show Ev _ _ _ _ _
     refine .cond rfl (fun hc58 => ?_) (fun hc58 => ?_)
     ·simp only [bne_iff_ne, ne_eq] at hc58
      refine .seq ?_
      refine .region ?_
      refine .q (op_assign rfl) trivial rfl ?_
      refine .q (op_assign rfl) trivial rfl ?_
      refine .q (op_assign rfl) trivial rfl ?_
      refine .q (op_assign rfl) trivial rfl ?_
      refine .nil ?_
      show Ev _ _ _ _ _
      refine .ret ?_
      show RetOk _ _ _ _ _ _ _
      (have hb3 : badP true s = 3 := badN_3 (b := true) (m := lenP s) (by omega) (by omega); have hF := (firstP_1 (b := true) (key := key) (n := n) (s := s) h19 (by rw [hb3]; decide)).trans (by rw [hb3]); exact ret4v rfl (.inl rfl) rfl rfl rfl rfl (by rw [hF] <;> rfl) (by rw [hF] <;> (first | rfl | (simp [restV]; done) | (simp only [restV]; rw [if_neg (by omega)]; done))) (by rw [hF] <;> (first | rfl | (simp [okV]; done) | (simp [okV]; omega))) (by rw [hF] <;> (first | rfl | simp)) trivial)
     ·simp only [bne_eq_false_iff_eq] at hc58
      refine .skip ?_
      show Ev _ _ _ _ _
      refine .seq ?_
      have hb0 : badP true s = 0 := badN_0 (b := true) (m := lenP s) (by omega) (by omega)
      have hbd := badN_le (b := true) (m := lenP s) hb0
      refine .region ?_
      refine .q (op_move rfl) trivial rfl ?_
      refine .q (op_addI rfl rfl ⟨by omega, by omega⟩) trivial rfl ?_
      refine .as (.i64 ((4 + (lenP s) : Nat) : Int)) (congrArg AV.i64 (by omega)) ?_
      refine .q (op_assign rfl) trivial rfl ?_
      refine .nil ?_
      show Ev _ _ _ _ _
      refine .seq ?_
      refine .seq ?_
      refine .region ?_
      refine .q (op_move rfl) trivial rfl ?_
      refine .q (op_eqS rfl rfl rfl) trivial rfl ?_
      refine .nil ?_
      show Ev _ _ _ _ _
      refine .cond_true rfl (bne_iff_ne.2 hk0) ?_
      refine .region ?_
      refine .q (op_move rfl) trivial rfl ?_
      refine .q (op_addI rfl rfl ⟨by omega, by omega⟩) trivial rfl ?_
      refine .as (.i64 (((sizeP true s) : Nat) : Int)) (congrArg AV.i64 (by rw [hsz]; omega)) ?_
      refine .q (op_assign rfl) trivial rfl ?_
      refine .nil ?_
      show Ev _ _ _ _ _
      refine .seq ?_
      refine .seq ?_
      refine .region ?_
      refine .q (op_move rfl) trivial rfl ?_
      refine .q (op_len_str Tryz.underlying9 rfl) trivial rfl ?_
      refine .q (op_move rfl) trivial rfl ?_
      refine .q (op_cmpI rfl rfl rfl) trivial rfl ?_
      refine .nil ?_
      show Ev _ _ _ _ _
      refine .cond rfl (fun hc68 => ?_) (fun hc68 => ?_)
      ·simp only [decide_eq_true_eq] at hc68
       refine .seq ?_
       refine .region ?_
       refine .q (op_move rfl) trivial rfl ?_
       refine .q (op_assign rfl) trivial rfl ?_
       refine .q (op_assign rfl) trivial rfl ?_
       refine .q (op_assign rfl) trivial rfl ?_
       refine .q (op_assign rfl) trivial rfl ?_
       refine .nil ?_
       show Ev _ _ _ _ _
       refine .ret ?_
       show RetOk _ _ _ _ _ _ _
       (have hF := firstP_2 (b := true) (key := key) (n := n) (s := s) h19 hb0 (by omega); exact ret4v rfl (.inl rfl) rfl rfl rfl rfl (by rw [hF] <;> rfl) (by rw [hF] <;> (first | rfl | (simp [restV]; done) | (simp only [restV]; rw [if_neg (by omega)]; done))) (by rw [hF] <;> (first | rfl | (simp [okV]; done) | (simp [okV]; omega))) (by rw [hF] <;> (first | rfl | simp)) trivial)
      ·simp only [decide_eq_false_iff_not] at hc68
       refine .skip ?_
       show Ev _ _ _ _ _
       refine .seq ?_
       have hs68 : ¬ s.length < (sizeP true s) := by omega
       have hbl := box_len (b := true) (s := s) hs68
       refine .region ?_
       refine .q (op_move rfl) trivial rfl ?_
       refine .q (op_move rfl) trivial rfl ?_
       refine .q (op_slice_str Tryz.underlying9 rfl (bnd_some rfl (l := 4) rfl) (bnd_some rfl (l := (sizeP true s)) rfl) (by omega) (by omega)) trivial rfl ?_
       refine .as (.str (boxP true s)) rfl ?_
       refine .q (op_assign rfl) trivial rfl ?_
       refine .nil ?_
       show Ev _ _ _ _ _
       refine .seq ?_
       refine .seq ?_
       refine .region ?_
       refine .q (op_move rfl) trivial rfl ?_
       refine .q (op_eqS rfl rfl rfl) trivial rfl ?_
       refine .nil ?_
       show Ev _ _ _ _ _
       refine .cond_true rfl (bne_iff_ne.2 hk0) ?_
       refine .seq ?_
       refine .drawn [[], [], [1], [], [], [4], [0, 1, 2, 3, 4, 5], [0, 1, 2, 3, 4, 5, 6], [0, 1, 2, 3, 4, 5, 6, 7], [0, 1, 2, 3, 4, 5, 6, 7], [0, 1, 2, 3, 4, 5, 6, 7, 8], [0, 1, 2, 3, 4, 5, 6, 7, 8, 9, 10]] [2, 6] [] (by kernel_rfl) (by kernel_rfl) rfl ?_
       show DK _ [0, 1, 2, 3, 4, 5, 6, 7, 8, 9, 10, 11] _ _ _
       refine .q rfl (op_move rfl) trivial ?_
       refine .q rfl (op_move rfl) trivial ?_
       refine .q rfl (op_call (U := []) [] [] (rnonce_ev c n hn) Tryz.func43 (by kernel_rfl) rfl rfl rfl (⟨⟨_, rfl, rfl, rfl⟩, trivial⟩) (trivial) (trivial) (trivial) rfl) trivial ?_
       refine .q rfl (op_move rfl) trivial ?_
       refine .q rfl (op_move rfl) trivial ?_
       refine .q rfl (ap_slice_str_hi Tryz.underlying9 rfl (bnd_some rfl (l := 4) rfl) (by omega)) trivial ?_
       refine .q rfl (op_call (U := []) [] [] (ropen12_ev key hk n (boxP true s) (s.take 4) (by omega) (by rw [List.length_take]; omega) (by omega)) Tryz.func44 (by kernel_rfl) rfl rfl rfl (⟨⟨_, rfl, rfl, rfl⟩, ⟨_, rfl, rfl, rfl⟩, ⟨_, rfl, rfl, rfl⟩, ⟨_, rfl, rfl, rfl⟩, trivial⟩) (trivial) (trivial) (trivial) rfl) trivial ?_
       refine .q rfl (op_move rfl) trivial ?_
       refine .q rfl (op_extract rfl rfl) trivial ?_
       refine .q rfl (op_extract rfl rfl) trivial ?_
       refine .q rfl (op_assign rfl) trivial ?_
       refine .q rfl (op_assign rfl) trivial ?_
       refine .nil ?_
       show Ev _ _ _ _ _
       refine .seq ?_
       refine .seq ?_
       refine .region ?_
       refine .q (op_move rfl) trivial rfl ?_
       refine .q (op_cmpI rfl rfl rfl) trivial rfl ?_
       refine .nil ?_
       show Ev _ _ _ _ _
       refine .cond rfl (fun hc86 => ?_) (fun hc86 => ?_)
       ·simp only [bne_iff_ne, ne_eq] at hc86
        refine .seq ?_
        refine .region ?_
        refine .q (op_move rfl) trivial rfl ?_
        refine .q (op_assign rfl) trivial rfl ?_
        refine .q (op_assign rfl) trivial rfl ?_
        refine .q (op_assign rfl) trivial rfl ?_
        refine .q (op_assign rfl) trivial rfl ?_
        refine .nil ?_
        show Ev _ _ _ _ _
        refine .ret ?_
        show RetOk _ _ _ _ _ _ _
        (have hF := firstP_3 (b := true) (key := key) (n := n) (s := s) h19 hb0 hs68 (by omega); exact ret4v rfl (.inl rfl) rfl rfl rfl rfl (by rw [hF] <;> rfl) (by rw [hF] <;> (first | rfl | (simp [restV]; done) | (simp only [restV]; rw [if_neg (by omega)]; done))) (by rw [hF] <;> (first | rfl | (simp [okV]; done) | (simp [okV]; omega))) (by rw [hF] <;> (first | rfl | simp)) trivial)
       ·simp only [bne_eq_false_iff_eq] at hc86
        refine .skip ?_
        show Ev _ _ _ _ _
        have ho : (openP true key n (boxP true s) (s.take 4)).2 = 0 := by omega
        refine .region ?_
        refine .q (op_move rfl) trivial rfl ?_
        refine .q (op_assign rfl) trivial rfl ?_
        refine .nil ?_
        show Ev _ _ _ _ _
        refine .seq ?_
        have hol := open_len (b := true) (key := key) (n := n) (head := s.take 4) hbl ho
        have hpb : ((openP true key n (boxP true s) (s.take 4)).1.getD 0 0).toNat < 256 := ((openP true key n (boxP true s) (s.take 4)).1.getD 0 0).toNat_lt
        refine .region ?_
        refine .q (op_move rfl) trivial rfl ?_
        refine .q (op_index_str Tryz.underlying9 rfl rfl (show (0 : Int) = ((0 : Nat) : Int) from rfl) (by omega)) trivial rfl ?_
        refine .q (op_conv Tryz.underlying5 Tryz.underlying3 rfl rfl) trivial rfl ?_
        refine .as (.i64 ((((openP true key n (boxP true s) (s.take 4)).1.getD 0 0).toNat : Nat) : Int)) rfl ?_
        refine .q (op_assign rfl) trivial rfl ?_
        refine .nil ?_
        show Ev _ _ _ _ _
        refine .seq ?_
        refine .seq ?_
        refine .region ?_
        refine .q (op_move rfl) trivial rfl ?_
        refine .q (op_cmpI rfl rfl rfl) trivial rfl ?_
        refine .q (op_move rfl) trivial rfl ?_
        refine .split (fun hg94 => ?_) (fun hg94 => ?_)
        ·simp only [decide_eq_true_eq] at hg94
         refine .no ⟨_, rfl, rfl⟩ rfl ?_
         refine .no ⟨_, rfl, rfl⟩ rfl ?_
         refine .no ⟨_, rfl, rfl⟩ rfl ?_
         refine .no ⟨_, rfl, rfl⟩ rfl ?_
         refine .no ⟨_, rfl, rfl⟩ rfl ?_
         refine .no ⟨_, rfl, rfl⟩ rfl ?_
         refine .q (op_pick_true rfl rfl rfl) trivial rfl ?_
         refine .nil ?_
         show Ev _ _ _ _ _
         refine .cond_true rfl rfl ?_
         refine .seq ?_
         refine .region ?_
         refine .q (op_assign rfl) trivial rfl ?_
         refine .q (op_assign rfl) trivial rfl ?_
         refine .q (op_assign rfl) trivial rfl ?_
         refine .q (op_assign rfl) trivial rfl ?_
         refine .nil ?_
         show Ev _ _ _ _ _
         refine .ret ?_
         show RetOk _ _ _ _ _ _ _
         (have hF := (firstP_4 (b := true) (key := key) (n := n) (s := s) h19 hb0 hs68 ho).trans (by rw [show (unpadP (openP true key n (boxP true s) (s.take 4)).1) = ([], 3) from if_pos (by omega)]); exact ret4v rfl (.inl rfl) rfl rfl rfl rfl (by rw [hF] <;> rfl) (by rw [hF] <;> (first | rfl | (simp [restV]; done) | (simp only [restV]; rw [if_neg (by omega)]; done))) (by rw [hF] <;> (first | rfl | (simp [okV]; done) | (simp [okV]; omega))) (by rw [hF] <;> (first | rfl | simp)) trivial)
        ·simp only [decide_eq_false_iff_not] at hg94
         refine .q (op_move rfl) ⟨_, rfl, rfl⟩ rfl ?_
         refine .q (op_len_str Tryz.underlying9 rfl) ⟨_, rfl, rfl⟩ rfl ?_
         refine .q (op_subI rfl rfl ⟨by omega, by omega⟩) ⟨_, rfl, rfl⟩ rfl ?_
         refine .q (op_move rfl) ⟨_, rfl, rfl⟩ rfl ?_
         refine .q (op_subI rfl rfl ⟨by omega, by omega⟩) ⟨_, rfl, rfl⟩ rfl ?_
         refine .q (op_cmpI rfl rfl rfl) ⟨_, rfl, rfl⟩ rfl ?_
         refine .q (op_pick_false rfl rfl rfl) trivial rfl ?_
         refine .nil ?_
         show Ev _ _ _ _ _
         refine .cond rfl (fun hc101 => ?_) (fun hc101 => ?_)
         ·simp only [decide_eq_true_eq] at hc101
          refine .seq ?_
          refine .region ?_
          refine .q (op_assign rfl) trivial rfl ?_
          refine .q (op_assign rfl) trivial rfl ?_
          refine .q (op_assign rfl) trivial rfl ?_
          refine .q (op_assign rfl) trivial rfl ?_
          refine .nil ?_
          show Ev _ _ _ _ _
          refine .ret ?_
          show RetOk _ _ _ _ _ _ _
          (have hF := (firstP_4 (b := true) (key := key) (n := n) (s := s) h19 hb0 hs68 ho).trans (by rw [show (unpadP (openP true key n (boxP true s) (s.take 4)).1) = ([], 3) from if_pos (by omega)]); exact ret4v rfl (.inl rfl) rfl rfl rfl rfl (by rw [hF] <;> rfl) (by rw [hF] <;> (first | rfl | (simp [restV]; done) | (simp only [restV]; rw [if_neg (by omega)]; done))) (by rw [hF] <;> (first | rfl | (simp [okV]; done) | (simp [okV]; omega))) (by rw [hF] <;> (first | rfl | simp)) trivial)
         ·simp only [decide_eq_false_iff_not] at hc101
          refine .skip ?_
          show Ev _ _ _ _ _
          refine .seq ?_
          refine .drawn [[], [], [1], [], [1, 2, 3], [0, 1, 2, 3, 4], [], [], [6, 7], [0, 1, 2, 3, 4, 5], [0, 1, 2, 3, 4, 5, 6, 7, 8, 9], [0, 1, 2, 3, 4, 5, 6, 7, 8, 9, 10], [0, 1, 2, 3, 4, 5, 6, 7, 8, 9, 10, 11]] [] [] (by kernel_rfl) (by kernel_rfl) rfl ?_
          show DK _ [0, 1, 2, 3, 4, 5, 6, 7, 8, 9, 10, 11, 12] _ _ _
          refine .q rfl (op_move rfl) trivial ?_
          refine .q rfl (op_move rfl) trivial ?_
          refine .q rfl (op_len_str Tryz.underlying9 rfl) trivial ?_
          refine .q rfl (op_move rfl) trivial ?_
          refine .q rfl (op_subI rfl rfl ⟨by omega, by omega⟩) trivial ?_
          refine .q rfl (op_slice_str Tryz.underlying9 rfl (bnd_some rfl (l := 1) rfl) (bnd_some rfl (l := (openP true key n (boxP true s) (s.take 4)).1.length - ((openP true key n (boxP true s) (s.take 4)).1.getD 0 0).toNat) (by omega)) (by omega) (by omega)) trivial ?_
          refine .as (.str (unpadP (openP true key n (boxP true s) (s.take 4)).1).1) (by rw [show (unpadP (openP true key n (boxP true s) (s.take 4)).1) = (((openP true key n (boxP true s) (s.take 4)).1.take ((openP true key n (boxP true s) (s.take 4)).1.length - ((openP true key n (boxP true s) (s.take 4)).1.getD 0 0).toNat)).drop 1, 0) from if_neg (by omega), List.drop_take]) ?_
          refine .q rfl (op_move rfl) trivial ?_
          refine .q rfl (op_move rfl) trivial ?_
          refine .q rfl (ap_slice_str_lo Tryz.underlying9 rfl (bnd_some rfl (l := (sizeP true s)) rfl) (by omega)) trivial ?_
          refine .q rfl (op_assign rfl) trivial ?_
          refine .q rfl (op_assign rfl) trivial ?_
          refine .q rfl (op_assign rfl) trivial ?_
          refine .q rfl (op_assign rfl) trivial ?_
          refine .nil ?_
          show Ev _ _ _ _ _
          refine .ret ?_
          show RetOk _ _ _ _ _ _ _
          (have hF := (firstP_4 (b := true) (key := key) (n := n) (s := s) h19 hb0 hs68 ho).trans (by rw [show (unpadP (openP true key n (boxP true s) (s.take 4)).1).2 = 0 from congrArg Prod.snd (if_neg (by omega) : (unpadP (openP true key n (boxP true s) (s.take 4)).1) = (((openP true key n (boxP true s) (s.take 4)).1.take ((openP true key n (boxP true s) (s.take 4)).1.length - ((openP true key n (boxP true s) (s.take 4)).1.getD 0 0).toNat)).drop 1, 0))]); exact ret4v rfl (.inl rfl) rfl rfl rfl rfl (by rw [hF] <;> rfl) (by rw [hF] <;> (first | rfl | (simp [restV]; done) | (simp only [restV]; rw [if_neg (by omega)]; done))) (by rw [hF] <;> (first | rfl | (simp [okV]; done) | (simp [okV]; omega))) (by rw [hF] <;> (first | rfl | simp)) trivial)
set_option maxHeartbeats 1000000 in
set_option maxRecDepth 100000 in
theorem rread_f (key : List UInt8) (hk : key.length = 32) (c : Int) (n : UInt64) (_hn : ofI64 c = n) (s : List UInt8) (hs : s.length ≤ 1000000) : Meets Tryz.prog 20 [.str s, .str [], .i64 c] [] (.tup [.str (firstP false key n s).1, .str (restV (firstP false key n s) s), .bool (okV (firstP false key n s)), .i64 (((firstP false key n s).2.2 : Nat) : Int)]) [] := by
 have hk0 : key ≠ [] := fun h => by rw [h] at hk; simp at hk
 refine meets_of_ev (nt := 111) Tryz.func20 rfl rfl (Nat.le_of_ble_eq_true rfl) ?_
 refine .seq ?_
 refine .region ?_
 refine .q (op_assign rfl) trivial rfl ?_
 refine .q (op_assign rfl) trivial rfl ?_
 refine .q (op_assign rfl) trivial rfl ?_
 refine .q (op_assign rfl) trivial rfl ?_
 refine .nil ?_
 show Ev _ _ _ _ _
 refine .seq ?_
 refine .seq ?_
 refine .region ?_
 refine .q (op_move rfl) trivial rfl ?_
 refine .q (op_len_str Tryz.underlying9 rfl) trivial rfl ?_
 refine .q (op_cmpI rfl rfl rfl) trivial rfl ?_
 refine .nil ?_
 show Ev _ _ _ _ _
 refine .cond rfl (fun hc19 => ?_) (fun hc19 => ?_)
 ·simp only [decide_eq_true_eq] at hc19
  refine .seq ?_
  refine .region ?_
  refine .q (op_move rfl) trivial rfl ?_
  refine .q (op_assign rfl) trivial rfl ?_
  refine .q (op_assign rfl) trivial rfl ?_
  refine .q (op_assign rfl) trivial rfl ?_
  refine .q (op_assign rfl) trivial rfl ?_
  refine .nil ?_
  show Ev _ _ _ _ _
  refine .ret ?_
  show RetOk _ _ _ _ _ _ _
  (have hF := firstP_0 (b := false) (key := key) (n := n) (s := s) (by omega); exact ret4v rfl (.inl rfl) rfl rfl rfl rfl (by rw [hF] <;> rfl) (by rw [hF] <;> (first | rfl | (simp [restV]; done) | (simp only [restV]; rw [if_neg (by omega)]; done))) (by rw [hF] <;> (first | rfl | (simp [okV]; done) | (simp [okV]; omega))) (by rw [hF] <;> (first | rfl | simp)) trivial)
 ·simp only [decide_eq_false_iff_not] at hc19
  refine .skip ?_
  show Ev _ _ _ _ _
  refine .seq ?_
  have h19 : ¬ s.length < 4 := by omega
  refine .region ?_
  refine .q (op_assign rfl) trivial rfl ?_
  refine .nil ?_
  show Ev _ _ _ _ _
  refine .seq ?_
  refine .seq ?_
  refine .region ?_
  refine .q (op_assign rfl) trivial rfl ?_
  refine .nil ?_
  show Ev _ _ _ _ _
  refine .block ?_
  refine Ev.loop (ι := { k : Nat // k ≤ 4 }) (fun q => ⟨[(0, .str s), (1, .str []), (2, .i64 c), (10, .i64 ((bigN s q.1 : Nat) : Int)), (11, .i64 ((q.1 : Nat) : Int))], [], 1000⟩) (fun q => 4 - q.1) ⟨0, Nat.zero_le _⟩ (StLe.mk [] rfl rfl ⟨⟨_, rfl, by first | rfl | (simp only [AV.ren]; congr 1; omega), rfl⟩, ⟨_, rfl, by first | rfl | (simp only [AV.ren]; congr 1; omega), rfl⟩, ⟨_, rfl, by first | rfl | (simp only [AV.ren]; congr 1; omega), rfl⟩, ⟨_, rfl, by first | rfl | (simp only [AV.ren]; congr 1; omega), rfl⟩, ⟨_, rfl, by first | rfl | (simp only [AV.ren]; congr 1; omega), rfl⟩, trivial⟩ trivial) ?_
  rintro ⟨k, hk4⟩
  try dsimp only
  try simp only at hk4
  have hbn := bigN_lt s k
  have hp4 : 256 ^ k ≤ 4294967296 := Nat.le_trans (Nat.pow_le_pow_right (show 0 < 256 by decide) hk4) (by decide)
  have hb8 : (s.getD k 0).toNat < 256 := (s.getD k 0).toNat_lt
  refine .seq ?_
  refine .seq ?_
  refine .region ?_
  refine .q (op_move rfl) trivial rfl ?_
  refine .q (op_cmpI rfl rfl rfl) trivial rfl ?_
  refine .nil ?_
  show Ev _ _ _ _ _
  refine .cond rfl (fun hc22 => ?_) (fun hc22 => ?_)
  ·simp only [decide_eq_true_eq] at hc22
   refine .skip ?_
   show Ev _ _ _ _ _
   refine .seq ?_
   refine .block ?_
   refine .region ?_
   refine .q (op_move rfl) trivial rfl ?_
   refine .q (op_mulI rfl rfl ⟨by omega, by omega⟩) trivial rfl ?_
   refine .q (op_move rfl) trivial rfl ?_
   refine .q (op_move rfl) trivial rfl ?_
   refine .q (op_index_str Tryz.underlying9 rfl rfl rfl (by omega)) trivial rfl ?_
   refine .q (op_conv Tryz.underlying5 Tryz.underlying3 rfl rfl) trivial rfl ?_
   refine .q (op_addI rfl rfl ⟨by omega, by omega⟩) trivial rfl ?_
   refine .q (op_assign rfl) trivial rfl ?_
   refine .nil ?_
   show Ev _ _ _ _ _
   refine .region ?_
   refine .q (op_move rfl) trivial rfl ?_
   refine .q (op_addI rfl rfl ⟨by omega, by omega⟩) trivial rfl ?_
   refine .q (op_assign rfl) trivial rfl ?_
   refine .nil ?_
   exact ⟨⟨k + 1, by omega⟩, by (try dsimp only); omega, StLe.mk [] rfl rfl ⟨⟨_, rfl, by first | rfl | (simp only [AV.ren]; congr 1; omega), rfl⟩, ⟨_, rfl, by first | rfl | (simp only [AV.ren]; congr 1; omega), rfl⟩, ⟨_, rfl, by first | rfl | (simp only [AV.ren]; congr 1; omega), rfl⟩, ⟨_, rfl, by first | rfl | (simp only [AV.ren]; congr 1), rfl⟩, ⟨_, rfl, by first | rfl | (simp only [AV.ren]; congr 1; omega), rfl⟩, trivial⟩ trivial⟩
  ·simp only [decide_eq_false_iff_not] at hc22
   refine .exit ?_
   show Ev _ _ _ _ _
   refine .seq ?_
   refine .seq ?_
   have ek : k = 4 := by omega
   subst ek
   have hl4 := bigN_4 h19
   have hmx : lenP s < 4294967296 := by rw [← hl4]; exact hbn
   have htg : tagP false = 0 := rfl
   have hsz : (sizeP false s) = 4 + (lenP s) + 0 := rfl
   have hle : leastP false = 12 := rfl
   have hah : aheadP false = 4 := rfl
   refine Ev.weak (st2 := ⟨[(0, .str s), (1, .str []), (2, .i64 c), (10, .i64 (((lenP s) : Nat) : Int))], [], 1000⟩) (StLe.mk [] rfl rfl ⟨⟨_, rfl, by rfl, rfl⟩, ⟨_, rfl, by rfl, rfl⟩, ⟨_, rfl, by rfl, rfl⟩, ⟨_, rfl, by (exact congrArg (fun z : Nat => AV.i64 (z : Int)) hl4), rfl⟩, trivial⟩ trivial) ?_
   refine .region ?_
   refine .q (op_move rfl) trivial rfl ?_
   refine .q (op_cmpI rfl rfl rfl) trivial rfl ?_
   refine .nil ?_
   show Ev _ _ _ _ _
   refine .cond rfl (fun hc33 => ?_) (fun hc33 => ?_)
   ·simp only [decide_eq_true_eq] at hc33
    refine .seq ?_
    refine .region ?_
    refine .q (op_assign rfl) trivial rfl ?_
    refine .q (op_assign rfl) trivial rfl ?_
    refine .q (op_assign rfl) trivial rfl ?_
    refine .q (op_assign rfl) trivial rfl ?_
    refine .nil ?_
    show Ev _ _ _ _ _
    refine .ret ?_
    show RetOk _ _ _ _ _ _ _
    (have hb4 : badP false s = 4 := badN_4 (b := false) (m := lenP s) (by omega); have hF := (firstP_1 (b := false) (key := key) (n := n) (s := s) h19 (by rw [hb4]; decide)).trans (by rw [hb4]); exact ret4v rfl (.inl rfl) rfl rfl rfl rfl (by rw [hF] <;> rfl) (by rw [hF] <;> (first | rfl | (simp [restV]; done) | (simp only [restV]; rw [if_neg (by omega)]; done))) (by rw [hF] <;> (first | rfl | (simp [okV]; done) | (simp [okV]; omega))) (by rw [hF] <;> (first | rfl | simp)) trivial)
   ·simp only [decide_eq_false_iff_not] at hc33
    refine .skip ?_
    show Ev _ _ _ _ _
    refine .seq ?_
    refine .seq ?_
    refine .region ?_
    refine .q (op_move rfl) trivial rfl ?_
    refine .q (op_eqS rfl rfl rfl) trivial rfl ?_
    refine .q (op_move rfl) trivial rfl ?_
    refine .know (b' := true) (rfl) ?_
    refine .q (op_move rfl) ⟨_, rfl, rfl⟩ rfl ?_
    refine .q (op_cmpI rfl rfl rfl) ⟨_, rfl, rfl⟩ rfl ?_
    refine .q (op_move rfl) ⟨_, rfl, rfl⟩ rfl ?_
    refine .split (fun hg39 => ?_) (fun hg39 => ?_)
    ·simp only [decide_eq_true_eq] at hg39
     refine .no ⟨_, rfl, rfl⟩ rfl ?_
     refine .no ⟨_, rfl, rfl⟩ rfl ?_
     refine .no ⟨_, rfl, rfl⟩ rfl ?_
     refine .no ⟨_, rfl, rfl⟩ rfl ?_
     refine .q (op_pick_true rfl rfl rfl) ⟨_, rfl, rfl⟩ rfl ?_
     refine .q (op_pick_true rfl rfl rfl) trivial rfl ?_
     refine .q (op_move rfl) trivial rfl ?_
     refine .no ⟨_, rfl, rfl⟩ rfl ?_
     refine .no ⟨_, rfl, rfl⟩ rfl ?_
     refine .no ⟨_, rfl, rfl⟩ rfl ?_
     refine .noU ⟨_, rfl, rfl⟩ rfl ?_
     refine .noU ⟨_, rfl, rfl⟩ rfl ?_
     refine .noU ⟨_, rfl, rfl⟩ rfl ?_
     refine .noU ⟨_, rfl, rfl⟩ rfl ?_
     refine .noU ⟨_, rfl, rfl⟩ rfl ?_
     refine .noU ⟨_, rfl, rfl⟩ rfl ?_
     refine .noU ⟨_, rfl, rfl⟩ rfl ?_
     refine .no ⟨_, rfl, rfl⟩ rfl ?_
     refine .q (op_pick_true rfl rfl rfl) trivial rfl ?_
     refine .nil ?_
     show Ev _ _ _ _ _
     refine .cond_true rfl rfl ?_
     refine .seq ?_
     refine .region ?_
     refine .q (op_assign rfl) trivial rfl ?_
     refine .q (op_assign rfl) trivial rfl ?_
     refine .q (op_assign rfl) trivial rfl ?_
     refine .q (op_assign rfl) trivial rfl ?_
     refine .nil ?_
     show Ev _ _ _ _ _
     refine .ret ?_
     show RetOk _ _ _ _ _ _ _
     (have hb3 : badP false s = 3 := badN_3 (b := false) (m := lenP s) (by omega) (by omega); have hF := (firstP_1 (b := false) (key := key) (n := n) (s := s) h19 (by rw [hb3]; decide)).trans (by rw [hb3]); exact ret4v rfl (.inl rfl) rfl rfl rfl rfl (by rw [hF] <;> rfl) (by rw [hF] <;> (first | rfl | (simp [restV]; done) | (simp only [restV]; rw [if_neg (by omega)]; done))) (by rw [hF] <;> (first | rfl | (simp [okV]; done) | (simp [okV]; omega))) (by rw [hF] <;> (first | rfl | simp)) trivial)
    ·simp only [decide_eq_false_iff_not] at hg39
     refine .q (op_move rfl) ⟨_, rfl, rfl⟩ rfl ?_
     refine .q (op_addI rfl rfl ⟨by omega, by omega⟩) ⟨_, rfl, rfl⟩ rfl ?_
     refine .q (op_remI rfl rfl ⟨by omega, by omega⟩) ⟨_, rfl, rfl⟩ rfl ?_
     refine .q (op_cmpI rfl rfl rfl) ⟨_, rfl, rfl⟩ rfl ?_
     refine .q (op_pick_false rfl rfl rfl) ⟨_, rfl, rfl⟩ rfl ?_
     refine .q (op_pick_true rfl rfl rfl) trivial rfl ?_
     refine .q (op_move rfl) trivial rfl ?_
     refine .split (fun hg46 => ?_) (fun hg46 => ?_)
     ·simp only [bne_iff_ne, ne_eq] at hg46
      refine .no ⟨_, rfl, rfl⟩ rfl ?_
      refine .no ⟨_, rfl, rfl⟩ rfl ?_
      refine .no ⟨_, rfl, rfl⟩ rfl ?_
      refine .noU ⟨_, rfl, rfl⟩ rfl ?_
      refine .noU ⟨_, rfl, rfl⟩ rfl ?_
      refine .noU ⟨_, rfl, rfl⟩ rfl ?_
      refine .noU ⟨_, rfl, rfl⟩ rfl ?_
      refine .noU ⟨_, rfl, rfl⟩ rfl ?_
      refine .noU ⟨_, rfl, rfl⟩ rfl ?_
      refine .noU ⟨_, rfl, rfl⟩ rfl ?_
      refine .no ⟨_, rfl, rfl⟩ rfl ?_
      refine .q (op_pick_true rfl rfl rfl) trivial rfl ?_
      refine .nil ?_
      show Ev _ _ _ _ _
      refine .cond_true rfl rfl ?_
      refine .seq ?_
      refine .region ?_
      refine .q (op_assign rfl) trivial rfl ?_
      refine .q (op_assign rfl) trivial rfl ?_
      refine .q (op_assign rfl) trivial rfl ?_
      refine .q (op_assign rfl) trivial rfl ?_
      refine .nil ?_
      show Ev _ _ _ _ _
      refine .ret ?_
      show RetOk _ _ _ _ _ _ _
      (have hb3 : badP false s = 3 := badN_3 (b := false) (m := lenP s) (by omega) (by omega); have hF := (firstP_1 (b := false) (key := key) (n := n) (s := s) h19 (by rw [hb3]; decide)).trans (by rw [hb3]); exact ret4v rfl (.inl rfl) rfl rfl rfl rfl (by rw [hF] <;> rfl) (by rw [hF] <;> (first | rfl | (simp [restV]; done) | (simp only [restV]; rw [if_neg (by omega)]; done))) (by rw [hF] <;> (first | rfl | (simp [okV]; done) | (simp [okV]; omega))) (by rw [hF] <;> (first | rfl | simp)) trivial)
     ·simp only [bne_eq_false_iff_eq] at hg46
      refine .q (op_move rfl) ⟨_, rfl, rfl⟩ rfl ?_
      refine .q (op_eqS rfl rfl rfl) ⟨_, rfl, rfl⟩ rfl ?_
      refine .q (op_move rfl) ⟨_, rfl, rfl⟩ rfl ?_
      refine .know (b' := false) (rfl) ?_
      refine .no ⟨_, rfl, rfl⟩ rfl ?_
      refine .no ⟨_, rfl, rfl⟩ rfl ?_
      refine .no ⟨_, rfl, rfl⟩ rfl ?_
      refine .noU ⟨_, rfl, rfl⟩ rfl ?_
      refine .noU ⟨_, rfl, rfl⟩ rfl ?_
      refine .noU ⟨_, rfl, rfl⟩ rfl ?_
      refine .no ⟨_, rfl, rfl⟩ rfl ?_
      refine .q (op_pick_false rfl rfl rfl) ⟨_, rfl, rfl⟩ rfl ?_
      refine .q (op_pick_false rfl rfl rfl) trivial rfl ?_
      refine .nil ?_
      show Ev _ _ _ _ _
      refine .cond_false rfl rfl ?_
      refine .skip ?_
      show Ev _ _ _ _ _
      refine .seq ?_
      have hb0 : badP false s = 0 := badN_0 (b := false) (m := lenP s) (by omega) (by omega)
      have hbd := badN_le (b := false) (m := lenP s) hb0
      refine .region ?_
      refine .q (op_move rfl) trivial rfl ?_
      refine .q (op_addI rfl rfl ⟨by omega, by omega⟩) trivial rfl ?_
      refine .as (.i64 ((4 + (lenP s) : Nat) : Int)) (congrArg AV.i64 (by omega)) ?_
      refine .q (op_assign rfl) trivial rfl ?_
      refine .nil ?_
      show Ev _ _ _ _ _
      refine .seq ?_
      refine .seq ?_
      refine .region ?_
      refine .q (op_move rfl) trivial rfl ?_
      refine .q (op_eqS rfl rfl rfl) trivial rfl ?_
      refine .nil ?_
      show Ev _ _ _ _ _
      refine .cond_false rfl (rfl) ?_
      refine .skip ?_
      show Ev _ _ _ _ _
      refine .seq ?_
      refine .seq ?_
      refine .region ?_
      refine .q (op_move rfl) trivial rfl ?_
      refine .q (op_len_str Tryz.underlying9 rfl) trivial rfl ?_
      refine .q (op_move rfl) trivial rfl ?_
      refine .q (op_cmpI rfl rfl rfl) trivial rfl ?_
      refine .nil ?_
      show Ev _ _ _ _ _
      refine .cond rfl (fun hc68 => ?_) (fun hc68 => ?_)
      ·simp only [decide_eq_true_eq] at hc68
       refine .seq ?_
       refine .region ?_
       refine .q (op_move rfl) trivial rfl ?_
       refine .q (op_assign rfl) trivial rfl ?_
       refine .q (op_assign rfl) trivial rfl ?_
       refine .q (op_assign rfl) trivial rfl ?_
       refine .q (op_assign rfl) trivial rfl ?_
       refine .nil ?_
       show Ev _ _ _ _ _
       refine .ret ?_
       show RetOk _ _ _ _ _ _ _
       (have hF := firstP_2 (b := false) (key := key) (n := n) (s := s) h19 hb0 (by omega); exact ret4v rfl (.inl rfl) rfl rfl rfl rfl (by rw [hF] <;> rfl) (by rw [hF] <;> (first | rfl | (simp [restV]; done) | (simp only [restV]; rw [if_neg (by omega)]; done))) (by rw [hF] <;> (first | rfl | (simp [okV]; done) | (simp [okV]; omega))) (by rw [hF] <;> (first | rfl | simp)) trivial)
      ·simp only [decide_eq_false_iff_not] at hc68
       refine .skip ?_
       show Ev _ _ _ _ _
       refine .seq ?_
       have hs68 : ¬ s.length < (sizeP false s) := by omega
       have hbl := box_len (b := false) (s := s) hs68
       refine .region ?_
       refine .q (op_move rfl) trivial rfl ?_
       refine .q (op_move rfl) trivial rfl ?_
       refine .q (op_slice_str Tryz.underlying9 rfl (bnd_some rfl (l := 4) rfl) (bnd_some rfl (l := (sizeP false s)) rfl) (by omega) (by omega)) trivial rfl ?_
       refine .as (.str (boxP false s)) rfl ?_
       refine .q (op_assign rfl) trivial rfl ?_
       refine .nil ?_
       show Ev _ _ _ _ _
       refine .seq ?_
       refine .seq ?_
       refine .region ?_
       refine .q (op_move rfl) trivial rfl ?_
       refine .q (op_eqS rfl rfl rfl) trivial rfl ?_
       refine .nil ?_
       show Ev _ _ _ _ _
       refine .cond_false rfl (rfl) ?_
       refine .skip ?_
       show Ev _ _ _ _ _
       refine .seq ?_
       have ho : (openP false key n (boxP false s) (s.take 4)).2 = 0 := rfl
       have hol := open_len (b := false) (key := key) (n := n) (head := s.take 4) hbl ho
       have hpb : ((openP false key n (boxP false s) (s.take 4)).1.getD 0 0).toNat < 256 := ((openP false key n (boxP false s) (s.take 4)).1.getD 0 0).toNat_lt
       refine .region ?_
       refine .q (op_move rfl) trivial rfl ?_
       refine .as (.str (openP false key n (boxP false s) (s.take 4)).1) rfl ?_
       refine .q (op_index_str Tryz.underlying9 rfl rfl (show (0 : Int) = ((0 : Nat) : Int) from rfl) (by omega)) trivial rfl ?_
       refine .q (op_conv Tryz.underlying5 Tryz.underlying3 rfl rfl) trivial rfl ?_
       refine .as (.i64 ((((openP false key n (boxP false s) (s.take 4)).1.getD 0 0).toNat : Nat) : Int)) rfl ?_
       refine .q (op_assign rfl) trivial rfl ?_
       refine .nil ?_
       show Ev _ _ _ _ _
       refine .seq ?_
       refine .seq ?_
       refine .region ?_
       refine .q (op_move rfl) trivial rfl ?_
       refine .q (op_cmpI rfl rfl rfl) trivial rfl ?_
       refine .q (op_move rfl) trivial rfl ?_
       refine .split (fun hg94 => ?_) (fun hg94 => ?_)
       ·simp only [decide_eq_true_eq] at hg94
        refine .no ⟨_, rfl, rfl⟩ rfl ?_
        refine .no ⟨_, rfl, rfl⟩ rfl ?_
        refine .no ⟨_, rfl, rfl⟩ rfl ?_
        refine .no ⟨_, rfl, rfl⟩ rfl ?_
        refine .no ⟨_, rfl, rfl⟩ rfl ?_
        refine .no ⟨_, rfl, rfl⟩ rfl ?_
        refine .q (op_pick_true rfl rfl rfl) trivial rfl ?_
        refine .nil ?_
        show Ev _ _ _ _ _
        refine .cond_true rfl rfl ?_
        refine .seq ?_
        refine .region ?_
        refine .q (op_assign rfl) trivial rfl ?_
        refine .q (op_assign rfl) trivial rfl ?_
        refine .q (op_assign rfl) trivial rfl ?_
        refine .q (op_assign rfl) trivial rfl ?_
        refine .nil ?_
        show Ev _ _ _ _ _
        refine .ret ?_
        show RetOk _ _ _ _ _ _ _
        (have hF := (firstP_4 (b := false) (key := key) (n := n) (s := s) h19 hb0 hs68 ho).trans (by rw [show (unpadP (openP false key n (boxP false s) (s.take 4)).1) = ([], 3) from if_pos (by omega)]); exact ret4v rfl (.inl rfl) rfl rfl rfl rfl (by rw [hF] <;> rfl) (by rw [hF] <;> (first | rfl | (simp [restV]; done) | (simp only [restV]; rw [if_neg (by omega)]; done))) (by rw [hF] <;> (first | rfl | (simp [okV]; done) | (simp [okV]; omega))) (by rw [hF] <;> (first | rfl | simp)) trivial)
       ·simp only [decide_eq_false_iff_not] at hg94
        refine .q (op_move rfl) ⟨_, rfl, rfl⟩ rfl ?_
        refine .as (.str (openP false key n (boxP false s) (s.take 4)).1) rfl ?_
        refine .q (op_len_str Tryz.underlying9 rfl) ⟨_, rfl, rfl⟩ rfl ?_
        refine .q (op_subI rfl rfl ⟨by omega, by omega⟩) ⟨_, rfl, rfl⟩ rfl ?_
        refine .q (op_move rfl) ⟨_, rfl, rfl⟩ rfl ?_
        refine .q (op_subI rfl rfl ⟨by omega, by omega⟩) ⟨_, rfl, rfl⟩ rfl ?_
        refine .q (op_cmpI rfl rfl rfl) ⟨_, rfl, rfl⟩ rfl ?_
        refine .q (op_pick_false rfl rfl rfl) trivial rfl ?_
        refine .nil ?_
        show Ev _ _ _ _ _
        refine .cond rfl (fun hc101 => ?_) (fun hc101 => ?_)
        ·simp only [decide_eq_true_eq] at hc101
         refine .seq ?_
         refine .region ?_
         refine .q (op_assign rfl) trivial rfl ?_
         refine .q (op_assign rfl) trivial rfl ?_
         refine .q (op_assign rfl) trivial rfl ?_
         refine .q (op_assign rfl) trivial rfl ?_
         refine .nil ?_
         show Ev _ _ _ _ _
         refine .ret ?_
         show RetOk _ _ _ _ _ _ _
         (have hF := (firstP_4 (b := false) (key := key) (n := n) (s := s) h19 hb0 hs68 ho).trans (by rw [show (unpadP (openP false key n (boxP false s) (s.take 4)).1) = ([], 3) from if_pos (by omega)]); exact ret4v rfl (.inl rfl) rfl rfl rfl rfl (by rw [hF] <;> rfl) (by rw [hF] <;> (first | rfl | (simp [restV]; done) | (simp only [restV]; rw [if_neg (by omega)]; done))) (by rw [hF] <;> (first | rfl | (simp [okV]; done) | (simp [okV]; omega))) (by rw [hF] <;> (first | rfl | simp)) trivial)
        ·simp only [decide_eq_false_iff_not] at hc101
         refine .skip ?_
         show Ev _ _ _ _ _
         refine .seq ?_
         refine .drawn [[], [], [1], [], [1, 2, 3], [0, 1, 2, 3, 4], [], [], [6, 7], [0, 1, 2, 3, 4, 5], [0, 1, 2, 3, 4, 5, 6, 7, 8, 9], [0, 1, 2, 3, 4, 5, 6, 7, 8, 9, 10], [0, 1, 2, 3, 4, 5, 6, 7, 8, 9, 10, 11]] [] [] (by kernel_rfl) (by kernel_rfl) rfl ?_
         show DK _ [0, 1, 2, 3, 4, 5, 6, 7, 8, 9, 10, 11, 12] _ _ _
         refine .q rfl (op_move rfl) trivial ?_
         refine .as (.str (openP false key n (boxP false s) (s.take 4)).1) rfl ?_
         refine .q rfl (op_move rfl) trivial ?_
         refine .as (.str (openP false key n (boxP false s) (s.take 4)).1) rfl ?_
         refine .q rfl (op_len_str Tryz.underlying9 rfl) trivial ?_
         refine .q rfl (op_move rfl) trivial ?_
         refine .q rfl (op_subI rfl rfl ⟨by omega, by omega⟩) trivial ?_
         refine .q rfl (op_slice_str Tryz.underlying9 rfl (bnd_some rfl (l := 1) rfl) (bnd_some rfl (l := (openP false key n (boxP false s) (s.take 4)).1.length - ((openP false key n (boxP false s) (s.take 4)).1.getD 0 0).toNat) (by omega)) (by omega) (by omega)) trivial ?_
         refine .as (.str (unpadP (openP false key n (boxP false s) (s.take 4)).1).1) (by rw [show (unpadP (openP false key n (boxP false s) (s.take 4)).1) = (((openP false key n (boxP false s) (s.take 4)).1.take ((openP false key n (boxP false s) (s.take 4)).1.length - ((openP false key n (boxP false s) (s.take 4)).1.getD 0 0).toNat)).drop 1, 0) from if_neg (by omega), List.drop_take]) ?_
         refine .q rfl (op_move rfl) trivial ?_
         refine .q rfl (op_move rfl) trivial ?_
         refine .q rfl (ap_slice_str_lo Tryz.underlying9 rfl (bnd_some rfl (l := (sizeP false s)) rfl) (by omega)) trivial ?_
         refine .q rfl (op_assign rfl) trivial ?_
         refine .q rfl (op_assign rfl) trivial ?_
         refine .q rfl (op_assign rfl) trivial ?_
         refine .q rfl (op_assign rfl) trivial ?_
         refine .nil ?_
         show Ev _ _ _ _ _
         refine .ret ?_
         show RetOk _ _ _ _ _ _ _
         (have hF := (firstP_4 (b := false) (key := key) (n := n) (s := s) h19 hb0 hs68 ho).trans (by rw [show (unpadP (openP false key n (boxP false s) (s.take 4)).1).2 = 0 from congrArg Prod.snd (if_neg (by omega) : (unpadP (openP false key n (boxP false s) (s.take 4)).1) = (((openP false key n (boxP false s) (s.take 4)).1.take ((openP false key n (boxP false s) (s.take 4)).1.length - ((openP false key n (boxP false s) (s.take 4)).1.getD 0 0).toNat)).drop 1, 0))]); exact ret4v rfl (.inl rfl) rfl rfl rfl rfl (by rw [hF] <;> rfl) (by rw [hF] <;> (first | rfl | (simp [restV]; done) | (simp only [restV]; rw [if_neg (by omega)]; done))) (by rw [hF] <;> (first | rfl | (simp [okV]; done) | (simp [okV]; omega))) (by rw [hF] <;> (first | rfl | simp)) trivial)
theorem rread_ev (b : Bool) (key : List UInt8) (hk : key.length = 32) (c : Int) (n : UInt64) (hn : ofI64 c = n) (s : List UInt8) (hs : s.length ≤ 1000000) : Meets Tryz.prog 20 [.str s, .str (ksP b key), .i64 c] [] (.tup [.str (firstP b key n s).1, .str (restV (firstP b key n s) s), .bool (okV (firstP b key n s)), .i64 (((firstP b key n s).2.2 : Nat) : Int)]) [] := by
 cases b
 ·exact rread_f key hk c n hn s hs
 ·exact rread_t key hk c n hn s hs
end Go.Proofs.YtdmlpblaelfdmaaGreatDoor
