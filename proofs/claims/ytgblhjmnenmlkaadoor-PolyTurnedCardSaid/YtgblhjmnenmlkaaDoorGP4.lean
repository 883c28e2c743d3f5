/-
  Texts of this claim.
-/
import Derived.Test.YtgblhjmnenmlkaaDoorGP2
namespace Go.Proofs.YtgblhjmnenmlkaaDoor
open Go.RowKit
section
variable {P : Program} {T : Nat → Option AV} {H : Hp} {nm : Nat} {wr : Bool} {d : Option Tmp} {ty t : TypeId} {ps : String} {af : Array Edge} {gd : Option (Nat × Bool)} {x y : Operand}
theorem op_mask16 {j : Int} {t' : TypeId} (hx : aev T x = some (.i64 j)) (hy : aev T y = some (.i64 65535)) : OpSem P T H ⟨d, .binOp .and t x y t', ty, ps, af, gd⟩ nm wr (.i64 (j % 65536)) [] :=
  op_bin hx hy fun E y1 y2 w h1 h2 => by
    rw [h1.i64_inv, h2.i64_inv]
    refine ⟨.int .i64 (IntKind.i64.wrap ((BitVec.ofInt 64 j &&& BitVec.ofInt 64 65535).toNat : Int)), rfl, ?_⟩
    have e : (BitVec.ofInt 64 j &&& BitVec.ofInt 64 65535).toNat = (j % 65536).toNat := by
      rw [BitVec.toNat_and, BitVec.toNat_ofInt, BitVec.toNat_ofInt]
      rw [show ((65535 : Int) % ((2 ^ 64 : Nat) : Int)).toNat = 2 ^ 16 - 1 by decide, Nat.and_two_pow_sub_one_eq_mod]; omega
    have hb : 0 ≤ j % 65536 ∧ j % 65536 ≤ 65535 := by omega
    rw [e, wrap_in ⟨by omega, by omega⟩]
    rw [show (((j % 65536).toNat : Nat) : Int) = j % 65536 by omega]
    exact .i64 _
end
/-- The cells of a Turned. -/
def turnC (key text extra : List UInt8) (wh at_ : Int) (by_ : UInt8) : List AV := key.map .u8 ++ [.str text, .str extra, .i64 wh, .i64 at_, .u8 by_]
section
variable {key text extra : List UInt8} {wh at_ : Int} {by_ : UInt8}
theorem turn_len (hk : key.length = 32) : (turnC key text extra wh at_ by_).length = 37 := by simp [turnC, hk]
theorem turn_nth (hk : key.length = 32) (i : Nat) {v : AV} (h : ([.str text, .str extra, .i64 wh, .i64 at_, .u8 by_] : List AV)[i]? = some v) : (AV.agg (turnC key text extra wh at_ by_)).nth (32 + i) = some v := by
  show (turnC key text extra wh at_ by_)[32 + i]? = some v
  unfold turnC
  rw [List.getElem?_append_right (by rw [List.length_map]; omega), List.length_map, hk, show 32 + i - 32 = i by omega]
  exact h
theorem turn_lt (hk : key.length = 32) (i : Nat) (h : i < 37) : i < (AV.agg (turnC key text extra wh at_ by_)).len := by
  show i < (turnC key text extra wh at_ by_).length
  rw [turn_len hk]; exact h
theorem turn_key (hk : key.length = 32) : key.map AV.u8 = ((turnC key text extra wh at_ by_).drop 0).take 32 := by
  unfold turnC
  rw [List.drop_zero, List.take_append_of_le_length (by rw [List.length_map]; omega), List.take_of_length_le (by rw [List.length_map]; omega)]
theorem turn_whole : (AV.agg (turnC key text extra wh at_ by_)).rowWhole = true := by
  show (turnC key text extra wh at_ by_).all AV.one = true
  unfold turnC
  rw [List.all_append]
  simp [AV.one]
theorem turn_names : (AV.agg (turnC key text extra wh at_ by_)).names = [] := by
  show AV.namesL (turnC key text extra wh at_ by_) = []
  unfold turnC
  induction key with
  | nil => rfl
  | cons p l ih => exact ih
end
def xorAt (l : List UInt8) (i : Nat) (b : UInt8) : List UInt8 := l.set i (l.getD i 0 ^^^ b)
theorem length_xorAt (l : List UInt8) (i : Nat) (b : UInt8) : (xorAt l i b).length = l.length := by simp [xorAt]
def tS (w : Int) (s : List UInt8) (a : Nat) (b : UInt8) : List UInt8 := if w = 0 then xorAt s (a % s.length) b else s
def tX (w : Int) (x : List UInt8) (b : UInt8) : List UInt8 := if w = 1 then x ++ [b] else x
def tN (w : Int) (n : List UInt8) (a : Nat) (b : UInt8) : List UInt8 := if w = 2 then xorAt n (a % 12) b else n
def tK (w : Int) (k : List UInt8) (a : Nat) (b : UInt8) : List UInt8 := if w = 0 then k else if w = 1 then k else if w = 2 then k else xorAt k (a % 32) b
theorem length_tS (w : Int) (s : List UInt8) (a : Nat) (b : UInt8) : (tS w s a b).length = s.length := by unfold tS; split <;> simp [length_xorAt]
theorem length_tN (w : Int) (s : List UInt8) (a : Nat) (b : UInt8) : (tN w s a b).length = s.length := by unfold tN; split <;> simp [length_xorAt]
theorem length_tK (w : Int) (s : List UInt8) (a : Nat) (b : UInt8) : (tK w s a b).length = s.length := by
  unfold tK
  split
  · rfl
  · split
    · rfl
    · split <;> simp [length_xorAt]
theorem length_tX (w : Int) (s : List UInt8) (b : UInt8) : (tX w s b).length ≤ s.length + 1 := by unfold tX; split <;> simp
theorem tS_y {w : Int} {s : List UInt8} {a : Nat} {b : UInt8} (h : w = 0) : xorAt s (a % s.length) b = tS w s a b := (if_pos h).symm
theorem tS_n {w : Int} {s : List UInt8} {a : Nat} {b : UInt8} (h : ¬ w = 0) : s = tS w s a b := (if_neg h).symm
theorem tX_y {w : Int} {x : List UInt8} {b : UInt8} (h : w = 1) : x ++ [b] = tX w x b := (if_pos h).symm
theorem tX_n {w : Int} {x : List UInt8} {b : UInt8} (h : ¬ w = 1) : x = tX w x b := (if_neg h).symm
theorem tX_0 {w : Int} {x : List UInt8} {b : UInt8} (h : w = 0) : x = tX w x b := tX_n (by rw [h]; decide)
theorem tN_y {w : Int} {n : List UInt8} {a : Nat} {b : UInt8} (h : w = 2) : xorAt n (a % 12) b = tN w n a b := (if_pos h).symm
theorem tN_n {w : Int} {n : List UInt8} {a : Nat} {b : UInt8} (h : ¬ w = 2) : n = tN w n a b := (if_neg h).symm
theorem tN_0 {w : Int} {n : List UInt8} {a : Nat} {b : UInt8} (h : w = 0) : n = tN w n a b := tN_n (by rw [h]; decide)
theorem tN_1 {w : Int} {n : List UInt8} {a : Nat} {b : UInt8} (h : w = 1) : n = tN w n a b := tN_n (by rw [h]; decide)
theorem tK_0 {w : Int} {k : List UInt8} {a : Nat} {b : UInt8} (h : w = 0) : k = tK w k a b := (if_pos h).symm
theorem tK_1 {w : Int} {k : List UInt8} {a : Nat} {b : UInt8} (h0 : ¬ w = 0) (h : w = 1) : k = tK w k a b := ((if_neg h0).trans (if_pos h)).symm
theorem tK_2 {w : Int} {k : List UInt8} {a : Nat} {b : UInt8} (h0 : ¬ w = 0) (h1 : ¬ w = 1) (h : w = 2) : k = tK w k a b := ((if_neg h0).trans ((if_neg h1).trans (if_pos h))).symm
theorem tK_y {w : Int} {k : List UInt8} {a : Nat} {b : UInt8} (h0 : ¬ w = 0) (h1 : ¬ w = 1) (h2 : ¬ w = 2) : xorAt k (a % 32) b = tK w k a b := ((if_neg h0).trans ((if_neg h1).trans (if_neg h2))).symm
theorem length_sealL (key nonce text extra : List UInt8) : (sealL key nonce text extra).length = text.length + 16 := by unfold sealL; rw [List.length_append, length_cXor, length_tagL]
set_option maxHeartbeats 1000000 in
set_option maxRecDepth 100000 in
theorem polyTurned_w (eo : Nat → Nat × Nat) (hd : ∀ i j, i < 20 → j < 20 → i ≠ j → eo i ≠ eo j) (e : Nat) (key text extra : List UInt8) (wh at_ : Int) (by_ : UInt8) (hk : key.length = 32) (ht : text.length ≤ maxLen) (he : extra.length ≤ maxLen) (w : Int) (hw : wh % 4 = w) (a : Nat) (ha : at_ % 65536 = (a : Int)) (SE : List UInt8) (hSE : sealL key (List.replicate 12 (0 : UInt8)) (text.take 60) (extra.take 30) = SE) (hL : SE.length = (text.take 60).length + 16) : Meets Tryd.prog 5 [.agg (turnC key text extra wh at_ by_)] [(21, some ⟨.aggI qsTab, e, false⟩), (2, some ⟨.agg [.err 192 (1) (offE eo (1))], errT, false⟩), (0, some ⟨.agg [.err 192 (2) (offE eo (2))], errT, false⟩), (3, some ⟨.agg [.err 192 (3) (offE eo (3))], errT, false⟩), (4, some ⟨.agg [.err 192 (4) (offE eo (4))], errT, false⟩), (1, some ⟨.agg [.err 192 (5) (offE eo (5))], errT, false⟩), (5, some ⟨.agg [.err 192 (6) (offE eo (6))], errT, false⟩), (6, some ⟨.agg [.err 192 (7) (offE eo (7))], errT, false⟩), (7, some ⟨.agg [.err 192 (8) (offE eo (8))], errT, false⟩), (8, some ⟨.agg [.err 192 (9) (offE eo (9))], errT, false⟩), (9, some ⟨.agg [.err 192 (10) (offE eo (10))], errT, false⟩), (10, some ⟨.agg [.err 192 (11) (offE eo (11))], errT, false⟩), (11, some ⟨.agg [.err 192 (12) (offE eo (12))], errT, false⟩), (12, some ⟨.agg [.err 192 (13) (offE eo (13))], errT, false⟩), (13, some ⟨.agg [.err 192 (14) (offE eo (14))], errT, false⟩), (14, some ⟨.agg [.err 192 (15) (offE eo (15))], errT, false⟩), (15, some ⟨.agg [.err 192 (16) (offE eo (16))], errT, false⟩), (16, some ⟨.agg [.err 192 (17) (offE eo (17))], errT, false⟩), (17, some ⟨.agg [.err 192 (18) (offE eo (18))], errT, false⟩), (18, some ⟨.agg [.err 192 (19) (offE eo (19))], errT, false⟩), (19, some ⟨.agg [.err 192 (20) (offE eo (20))], errT, false⟩), (401, some ⟨.agg [], errT, false⟩), (402, some ⟨.agg [], errT, false⟩), (403, some ⟨.agg [], errT, false⟩), (404, some ⟨.agg [], errT, false⟩), (405, some ⟨.agg [], errT, false⟩), (406, some ⟨.agg [], errT, false⟩), (407, some ⟨.agg [], errT, false⟩), (408, some ⟨.agg [], errT, false⟩), (409, some ⟨.agg [], errT, false⟩), (410, some ⟨.agg [], errT, false⟩), (411, some ⟨.agg [], errT, false⟩), (412, some ⟨.agg [], errT, false⟩), (413, some ⟨.agg [], errT, false⟩), (414, some ⟨.agg [], errT, false⟩), (415, some ⟨.agg [], errT, false⟩), (416, some ⟨.agg [], errT, false⟩), (417, some ⟨.agg [], errT, false⟩), (418, some ⟨.agg [], errT, false⟩), (419, some ⟨.agg [], errT, false⟩), (420, some ⟨.agg [], errT, false⟩)] (.bool true) [] := by
  have hTl : (text.take 60).length ≤ 60 := List.length_take_le 60 text
  refine meets_of_ev (nt := 104) Tryd.func5 rfl rfl (Nat.le_of_ble_eq_true rfl) ?_
  refine .seq ?_
  refine .region ?_
  refine .a (op_boxRow rfl rfl) trivial rfl ?_
  refine .q (op_assign rfl) trivial rfl ?_
  refine .nil ?_
  show Ev _ _ _ _ _
  refine .seq ?_
  refine .seq ?_
  refine .region ?_
  refine .q (op_call (U := []) [] [] (awake4_ev e) Tryd.func9 (by kernel_rfl) rfl rfl rfl (trivial) (⟨⟨_, _, rfl, rfl, rfl, rfl, (fun h => by cases h), rfl⟩, trivial⟩) (trivial) (⟨(fun h => by cases h), trivial⟩) rfl) trivial rfl ?_
  refine .q (op_notB rfl) trivial rfl ?_
  refine .nil ?_
  show Ev _ _ _ _ _
  refine .cond_false rfl (rfl) ?_
  refine .skip ?_
  show Ev _ _ _ _ _
  refine .seq ?_
  refine .drawn [[], [0], [0, 1], [], [3], [0, 1, 2, 3, 4], [0, 1, 2, 3, 4, 5], [0, 1, 2, 3, 4, 5, 6]] [1, 2, 4, 5] [] (by kernel_rfl) (by kernel_rfl) rfl ?_
  show DK _ [0, 1, 2, 3, 4, 5, 6, 7] _ _ _
  refine .q rfl (op_fieldAddr (m := 0) Tryd.underlying40 rfl (by kernel_rfl) rfl) trivial ?_
  refine .as (.ptr 1000 32) rfl ?_
  refine .q rfl (op_load Tryd.underlying9 rfl rfl rfl (turn_nth hk 0 rfl) (turn_lt hk 32 (by decide))) trivial ?_
  refine .q rfl (op_call (U := []) [] [] (cut_ev text 60 ht (by decide)) Tryd.func12 (by kernel_rfl) rfl rfl rfl (⟨⟨_, rfl, rfl, rfl⟩, ⟨_, rfl, rfl, rfl⟩, trivial⟩) (trivial) (trivial) (trivial) rfl) trivial ?_
  refine .as (.str (text.take 60)) rfl ?_
  refine .q rfl (op_fieldAddr (m := 0) Tryd.underlying40 rfl (by kernel_rfl) rfl) trivial ?_
  refine .as (.ptr 1000 33) rfl ?_
  refine .q rfl (op_load Tryd.underlying9 rfl rfl rfl (turn_nth hk 1 rfl) (turn_lt hk 33 (by decide))) trivial ?_
  refine .q rfl (op_call (U := []) [] [] (cut_ev extra 30 he (by decide)) Tryd.func12 (by kernel_rfl) rfl rfl rfl (⟨⟨_, rfl, rfl, rfl⟩, ⟨_, rfl, rfl, rfl⟩, trivial⟩) (trivial) (trivial) (trivial) rfl) trivial ?_
  refine .as (.str (extra.take 30)) rfl ?_
  refine .q rfl (op_assign rfl) trivial ?_
  refine .q rfl (op_assign rfl) trivial ?_
  refine .nil ?_
  show Ev _ _ _ _ _
  refine .seq ?_
  refine .region ?_
  refine .a (op_allocRow zero34 rel_zero34 rfl) trivial rfl ?_
  refine .nil ?_
  show Ev _ _ _ _ _
  refine .seq ?_
  refine .region ?_
  refine .q (op_fieldAddr (m := 31) Tryd.underlying40 rfl (by kernel_rfl) rfl) trivial rfl ?_
  refine .as (.ptr 1000 0) rfl ?_
  refine .q (op_loadPart (m := 32) (r := .aggB key) (cs := key.map .u8) Tryd.underlying22 rfl (by kernel_rfl) rfl rfl rfl (by rw [List.length_map]; exact hk) (turn_key hk) (turn_lt hk 31 (by decide))) trivial rfl ?_
  refine .q (op_loadRow Tryd.underlying34 rfl sz34 rfl rfl rfl (by simp [AV.len])) trivial rfl ?_
  refine .q (op_move rfl) trivial rfl ?_
  refine .q (op_move rfl) trivial rfl ?_
  refine .q (op_call (U := []) [] [] (seal_ev e key (List.replicate 12 (0 : UInt8)) (text.take 60) (extra.take 30) hk rfl (by simp only [List.length_take]; omega) (by simp only [List.length_take]; omega)) Tryd.func16 (by kernel_rfl) rfl rfl rfl (⟨⟨_, rfl, rfl, rfl⟩, ⟨_, rfl, rfl, rfl⟩, ⟨_, rfl, rfl, rfl⟩, ⟨_, rfl, rfl, rfl⟩, trivial⟩) (⟨⟨_, _, rfl, rfl, rfl, rfl, (fun h => by cases h), rfl⟩, trivial⟩) (trivial) (⟨(fun h => by cases h), trivial⟩) rfl) trivial rfl ?_
  refine .as (.str SE) (congrArg AV.str hSE) ?_
  refine .a (op_str_bytes Tryd.underlying9 Tryd.underlying23 Tryd.underlying5 rfl (by unfold maxLen; omega)) trivial rfl ?_
  refine .q (op_assign rfl) trivial rfl ?_
  refine .nil ?_
  show Ev _ _ _ _ _
  refine .seq ?_
  refine .region ?_
  refine .q (op_fieldAddr (m := 31) Tryd.underlying40 rfl (by kernel_rfl) rfl) trivial rfl ?_
  refine .as (.ptr 1000 0) rfl ?_
  refine .q (op_loadPart (m := 32) (r := .aggB key) (cs := key.map .u8) Tryd.underlying22 rfl (by kernel_rfl) rfl rfl rfl (by rw [List.length_map]; exact hk) (turn_key hk) (turn_lt hk 31 (by decide))) trivial rfl ?_
  refine .a (op_allocRow zero22 rel_zero22 rfl) trivial rfl ?_
  refine .w (op_storeRow sz22 rfl rfl rfl rfl rfl (by first | exact hk | (simp [AV.len, hk]; done)) (by first | exact hk | (simp [AV.len]; done))) trivial rfl ?_
  refine .nil ?_
  show Ev _ _ _ _ _
  refine .seq ?_
  refine .region ?_
  refine .q (op_fieldAddr (m := 0) Tryd.underlying40 rfl (by kernel_rfl) rfl) trivial rfl ?_
  refine .as (.ptr 1000 35) rfl ?_
  refine .q (op_load Tryd.underlying3 rfl rfl rfl (turn_nth hk 3 rfl) (turn_lt hk 35 (by decide))) trivial rfl ?_
  refine .q (op_mask16 rfl rfl) trivial rfl ?_
  refine .as (.i64 ((a : Nat) : Int)) (congrArg AV.i64 ha) ?_
  refine .q (op_assign rfl) trivial rfl ?_
  refine .nil ?_
  show Ev _ _ _ _ _
  refine .seq ?_
  refine .seq ?_
  refine .region ?_
  refine .q (op_fieldAddr (m := 0) Tryd.underlying40 rfl (by kernel_rfl) rfl) trivial rfl ?_
  refine .as (.ptr 1000 34) rfl ?_
  refine .q (op_load Tryd.underlying3 rfl rfl rfl (turn_nth hk 2 rfl) (turn_lt hk 34 (by decide))) trivial rfl ?_
  refine .q (op_maskI (m := 3) rfl rfl (.inl rfl)) trivial rfl ?_
  refine .as (.i64 w) (congrArg AV.i64 hw) ?_
  refine .nil ?_
  show Ev _ _ _ _ _
  refine .block ?_
  refine .seq ?_
  refine .region ?_
  refine .q (op_cmpI rfl rfl rfl) trivial rfl ?_
  refine .q (op_assign rfl) trivial rfl ?_
  refine .nil ?_
  show Ev _ _ _ _ _
  refine .cond rfl (fun hc44 => ?_) (fun hc44 => ?_)
  · first | replace hc44 := of_decide_eq_true hc44 | replace hc44 := of_decide_eq_false hc44 | replace hc44 := eq_of_beq hc44 | replace hc44 := ne_of_beq_false hc44 | simp only [bne_iff_ne, ne_eq] at hc44 | simp only [bne_eq_false_iff_eq] at hc44
    refine .drawn [[], [], [], [2], [1, 2, 3], [0, 1, 2, 3, 4], [0, 1, 2, 3, 4, 5], [], [7], [0, 1, 2, 3, 4, 5, 6, 7, 8], [0, 1, 2, 3, 4, 5, 6, 7, 8, 9], [0, 1, 2, 3, 4, 5, 6, 7, 8, 9, 10]] [6, 8, 11] [11] (by kernel_rfl) (by kernel_rfl) rfl ?_
    show DK _ [0, 1, 2, 3, 4, 5, 6, 7, 8, 9, 10, 11] _ _ _
    refine .q rfl (op_move rfl) trivial ?_
    refine .q rfl (op_move rfl) trivial ?_
    refine .q rfl (op_move rfl) trivial ?_
    refine .q rfl (op_len_sl Tryd.underlying23 rfl) trivial ?_
    refine .q rfl (op_remI rfl rfl ⟨by omega, by omega⟩) trivial ?_
    refine .as (.i64 ((a % SE.length : Nat) : Int)) (congrArg AV.i64 (Int.natCast_emod _ _).symm) ?_
    refine .q rfl (ap_idx0 Tryd.underlying23 inf5.sz rfl rfl rfl (Nat.mod_lt _ (by omega))) trivial ?_
    refine .q rfl (op_load Tryd.underlying5 rfl rfl rfl rfl (Nat.mod_lt _ (by omega))) trivial ?_
    refine .q rfl (op_fieldAddr (m := 0) Tryd.underlying40 rfl (by kernel_rfl) rfl) trivial ?_
    refine .as (.ptr 1000 36) rfl ?_
    refine .q rfl (op_load Tryd.underlying5 rfl rfl rfl (turn_nth hk 4 rfl) (turn_lt hk 36 (by decide))) trivial ?_
    refine .q rfl (op_bin8 rfl rfl rfl) trivial ?_
    refine .q rfl (ap_idx0 Tryd.underlying23 inf5.sz rfl rfl rfl (Nat.mod_lt _ (by omega))) trivial ?_
    refine .w rfl (op_store inf5.sz rfl rfl rfl rfl rfl (Nat.mod_lt _ (by omega))) trivial rfl rfl ?_
    refine .nil ?_
    show Ev _ _ _ _ _
    refine .seq ?_
    refine Ev.weak (st2 := ⟨[(2, .bool false), (4, .str (tX w (extra.take 30) by_)), (5, .ptr 1072 0), (6, .sl 1080 0 (tS w SE a by_).length 1), (7, .ptr 1088 0)], [(1072, some ⟨.aggB (tN w (List.replicate 12 (0 : UInt8)) a by_), 34, true⟩), (1080, some ⟨.aggB (tS w SE a by_), 5, true⟩), (1088, some ⟨.aggB (tK w key a by_), 22, true⟩), (21, some ⟨.aggI qsTab, e, false⟩), (2, some ⟨.agg [.err 192 (1) (offE eo (1))], errT, false⟩), (0, some ⟨.agg [.err 192 (2) (offE eo (2))], errT, false⟩), (3, some ⟨.agg [.err 192 (3) (offE eo (3))], errT, false⟩), (4, some ⟨.agg [.err 192 (4) (offE eo (4))], errT, false⟩), (1, some ⟨.agg [.err 192 (5) (offE eo (5))], errT, false⟩), (5, some ⟨.agg [.err 192 (6) (offE eo (6))], errT, false⟩), (6, some ⟨.agg [.err 192 (7) (offE eo (7))], errT, false⟩), (7, some ⟨.agg [.err 192 (8) (offE eo (8))], errT, false⟩), (8, some ⟨.agg [.err 192 (9) (offE eo (9))], errT, false⟩), (9, some ⟨.agg [.err 192 (10) (offE eo (10))], errT, false⟩), (10, some ⟨.agg [.err 192 (11) (offE eo (11))], errT, false⟩), (11, some ⟨.agg [.err 192 (12) (offE eo (12))], errT, false⟩), (12, some ⟨.agg [.err 192 (13) (offE eo (13))], errT, false⟩), (13, some ⟨.agg [.err 192 (14) (offE eo (14))], errT, false⟩), (14, some ⟨.agg [.err 192 (15) (offE eo (15))], errT, false⟩), (15, some ⟨.agg [.err 192 (16) (offE eo (16))], errT, false⟩), (16, some ⟨.agg [.err 192 (17) (offE eo (17))], errT, false⟩), (17, some ⟨.agg [.err 192 (18) (offE eo (18))], errT, false⟩), (18, some ⟨.agg [.err 192 (19) (offE eo (19))], errT, false⟩), (19, some ⟨.agg [.err 192 (20) (offE eo (20))], errT, false⟩), (401, some ⟨.agg [], errT, false⟩), (402, some ⟨.agg [], errT, false⟩), (403, some ⟨.agg [], errT, false⟩), (404, some ⟨.agg [], errT, false⟩), (405, some ⟨.agg [], errT, false⟩), (406, some ⟨.agg [], errT, false⟩), (407, some ⟨.agg [], errT, false⟩), (408, some ⟨.agg [], errT, false⟩), (409, some ⟨.agg [], errT, false⟩), (410, some ⟨.agg [], errT, false⟩), (411, some ⟨.agg [], errT, false⟩), (412, some ⟨.agg [], errT, false⟩), (413, some ⟨.agg [], errT, false⟩), (414, some ⟨.agg [], errT, false⟩), (415, some ⟨.agg [], errT, false⟩), (416, some ⟨.agg [], errT, false⟩), (417, some ⟨.agg [], errT, false⟩), (418, some ⟨.agg [], errT, false⟩), (419, some ⟨.agg [], errT, false⟩), (420, some ⟨.agg [], errT, false⟩)], 1096⟩) ?_ ?_
    · exact StLe.mk [(1072, 1072), (1080, 1080), (1088, 1088)] rfl rfl ⟨⟨_, rfl, by rfl, rfl⟩, ⟨_, rfl, by (first | exact congrArg AV.str (tX_0 hc44) | exact congrArg AV.str (tX_y hc57) | exact congrArg AV.str (tX_n hc57)), rfl⟩, ⟨_, rfl, by rfl, rfl⟩, ⟨_, rfl, by (exact congrArg (fun n => AV.sl 1080 0 n 1) (length_tS _ _ _ _).symm), rfl⟩, ⟨_, rfl, by rfl, rfl⟩, trivial⟩ ⟨⟨_, _, rfl, rfl, by (first | exact congrArg AV.aggB (tN_0 hc44) | exact congrArg AV.aggB (tN_1 hc57) | exact congrArg AV.aggB (tN_y hc65) | exact congrArg AV.aggB (tN_n hc65)), rfl, id, rfl⟩, ⟨_, _, rfl, rfl, by (first | exact congrArg AV.aggB (tS_y hc44) | exact congrArg AV.aggB (tS_n hc44)), rfl, id, rfl⟩, ⟨_, _, rfl, rfl, by (first | exact congrArg AV.aggB (tK_0 hc44) | exact congrArg AV.aggB (tK_1 hc44 hc57) | exact congrArg AV.aggB (tK_2 hc44 hc57 hc65) | exact congrArg AV.aggB (tK_y hc44 hc57 hc65)), rfl, id, rfl⟩, ⟨_, _, rfl, rfl, rfl, rfl, id, rfl⟩, ⟨_, _, rfl, rfl, rfl, rfl, id, rfl⟩, ⟨_, _, rfl, rfl, rfl, rfl, id, rfl⟩, ⟨_, _, rfl, rfl, rfl, rfl, id, rfl⟩, ⟨_, _, rfl, rfl, rfl, rfl, id, rfl⟩, ⟨_, _, rfl, rfl, rfl, rfl, id, rfl⟩, ⟨_, _, rfl, rfl, rfl, rfl, id, rfl⟩, ⟨_, _, rfl, rfl, rfl, rfl, id, rfl⟩, ⟨_, _, rfl, rfl, rfl, rfl, id, rfl⟩, ⟨_, _, rfl, rfl, rfl, rfl, id, rfl⟩, ⟨_, _, rfl, rfl, rfl, rfl, id, rfl⟩, ⟨_, _, rfl, rfl, rfl, rfl, id, rfl⟩, ⟨_, _, rfl, rfl, rfl, rfl, id, rfl⟩, ⟨_, _, rfl, rfl, rfl, rfl, id, rfl⟩, ⟨_, _, rfl, rfl, rfl, rfl, id, rfl⟩, ⟨_, _, rfl, rfl, rfl, rfl, id, rfl⟩, ⟨_, _, rfl, rfl, rfl, rfl, id, rfl⟩, ⟨_, _, rfl, rfl, rfl, rfl, id, rfl⟩, ⟨_, _, rfl, rfl, rfl, rfl, id, rfl⟩, ⟨_, _, rfl, rfl, rfl, rfl, id, rfl⟩, ⟨_, _, rfl, rfl, rfl, rfl, id, rfl⟩, ⟨_, _, rfl, rfl, rfl, rfl, id, rfl⟩, ⟨_, _, rfl, rfl, rfl, rfl, id, rfl⟩, ⟨_, _, rfl, rfl, rfl, rfl, id, rfl⟩, ⟨_, _, rfl, rfl, rfl, rfl, id, rfl⟩, ⟨_, _, rfl, rfl, rfl, rfl, id, rfl⟩, ⟨_, _, rfl, rfl, rfl, rfl, id, rfl⟩, ⟨_, _, rfl, rfl, rfl, rfl, id, rfl⟩, ⟨_, _, rfl, rfl, rfl, rfl, id, rfl⟩, ⟨_, _, rfl, rfl, rfl, rfl, id, rfl⟩, ⟨_, _, rfl, rfl, rfl, rfl, id, rfl⟩, ⟨_, _, rfl, rfl, rfl, rfl, id, rfl⟩, ⟨_, _, rfl, rfl, rfl, rfl, id, rfl⟩, ⟨_, _, rfl, rfl, rfl, rfl, id, rfl⟩, ⟨_, _, rfl, rfl, rfl, rfl, id, rfl⟩, ⟨_, _, rfl, rfl, rfl, rfl, id, rfl⟩, ⟨_, _, rfl, rfl, rfl, rfl, id, rfl⟩, ⟨_, _, rfl, rfl, rfl, rfl, id, rfl⟩, ⟨_, _, rfl, rfl, rfl, rfl, id, rfl⟩, ⟨_, _, rfl, rfl, rfl, rfl, id, rfl⟩, ⟨_, _, rfl, rfl, rfl, rfl, id, rfl⟩, trivial⟩
    refine .region ?_
    refine .q (op_loadRow Tryd.underlying22 rfl sz22 rfl rfl rfl (by rw [show (AV.aggB (tK w key a by_)).len = (tK w key a by_).length from rfl, length_tK]; exact hk)) trivial rfl ?_
    refine .q (op_loadRow Tryd.underlying34 rfl sz34 rfl rfl rfl (by rw [show (AV.aggB (tN w (List.replicate 12 (0 : UInt8)) a by_)).len = (tN w (List.replicate 12 (0 : UInt8)) a by_).length from rfl, length_tN]; rfl)) trivial rfl ?_
    refine .q (op_move rfl) trivial rfl ?_
    refine .q (op_bytes_str Tryd.underlying23 Tryd.underlying5 Tryd.underlying9 rfl rfl rfl (by omega)) trivial rfl ?_
    refine .as (.str (tS w SE a by_)) (by rw [List.drop_zero, List.take_of_length_le (Nat.le_refl _)]) ?_
    refine .q (op_move rfl) trivial rfl ?_
    refine dite ((tS w SE a by_).drop ((tS w SE a by_).length - 16) = (tagL (tK w key a by_) (tN w (List.replicate 12 (0 : UInt8)) a by_) ((tS w SE a by_).take ((tS w SE a by_).length - 16)) (tX w (extra.take 30) by_))) (fun hTag => ?_) (fun hTag => ?_)
    · refine .q (op_call (U := []) [] [] (popen_ok e (tK w key a by_) (tN w (List.replicate 12 (0 : UInt8)) a by_) (tS w SE a by_) (tX w (extra.take 30) by_) (by rw [length_tK]; exact hk) (by rw [length_tN]; rfl) (by rw [length_tS]; omega) (by have h9 := length_tX w (extra.take 30) by_; rw [List.length_take] at h9; omega) (by rw [length_tS]; omega) hTag eo) Tryd.func13 (by kernel_rfl) rfl rfl rfl (⟨⟨_, rfl, rfl, rfl⟩, ⟨_, rfl, rfl, rfl⟩, ⟨_, rfl, rfl, rfl⟩, ⟨_, rfl, rfl, rfl⟩, trivial⟩) (⟨⟨_, _, rfl, rfl, rfl, rfl, (fun h => by cases h), rfl⟩, trivial⟩) (trivial) (⟨(fun h => by cases h), trivial⟩) rfl) trivial rfl ?_
      refine .q (op_move rfl) trivial rfl ?_
      refine .q (op_extract rfl rfl) trivial rfl ?_
      refine .q (op_extract rfl rfl) trivial rfl ?_
      refine .q (op_assign rfl) trivial rfl ?_
      refine .q (op_assign rfl) trivial rfl ?_
      refine .nil ?_
      show Ev _ _ _ _ _
      refine .seq ?_
      refine .drawn [[], [0], [], [2], [], [4], [], [0, 1, 2, 3, 4, 5, 6], [0, 1, 2, 3, 4, 5, 6, 7], [0, 1, 2, 3, 4, 5, 6, 7, 8], [0, 1, 2, 3, 4, 5, 6, 7, 8], [0, 1, 2, 3, 4, 5, 6, 7, 8, 9], [0, 1, 2, 3, 4, 5, 6, 7, 8, 9, 10, 11]] [0, 1, 2, 3, 5, 7] [] (by kernel_rfl) (by kernel_rfl) rfl ?_
      show DK _ [0, 1, 2, 3, 4, 5, 6, 7, 8, 9, 10, 11, 12] _ _ _
      refine .q rfl (ap_slice_arr_hi Tryd.underlying22 inf5.sz rfl rfl (by first | (rw [show (AV.aggB (tK w key a by_)).len = (tK w key a by_).length from rfl, length_tK, hk]; omega) | omega) (by decide) rfl (by first | (rw [show (AV.aggB (tK w key a by_)).len = (tK w key a by_).length from rfl, length_tK, hk]; omega) | omega)) trivial ?_
      refine .q rfl (op_bytes_str Tryd.underlying23 Tryd.underlying5 Tryd.underlying9 rfl rfl rfl (by rw [length_tK, hk]; omega)) trivial ?_
      refine .as (.str (tK w key a by_)) (by rw [List.drop_zero, List.take_of_length_le (by rw [length_tK, hk]; omega)]) ?_
      refine .q rfl (ap_slice_arr_hi Tryd.underlying34 inf5.sz rfl rfl (by first | (rw [show (AV.aggB (tN w (List.replicate 12 (0 : UInt8)) a by_)).len = (tN w (List.replicate 12 (0 : UInt8)) a by_).length from rfl, length_tN]; simp; done) | omega) (by decide) rfl (by first | (rw [show (AV.aggB (tN w (List.replicate 12 (0 : UInt8)) a by_)).len = (tN w (List.replicate 12 (0 : UInt8)) a by_).length from rfl, length_tN]; simp; done) | omega)) trivial ?_
      refine .q rfl (op_bytes_str Tryd.underlying23 Tryd.underlying5 Tryd.underlying9 rfl rfl rfl (by rw [length_tN]; simp)) trivial ?_
      refine .as (.str (tN w (List.replicate 12 (0 : UInt8)) a by_)) (by rw [List.drop_zero, List.take_of_length_le (by rw [length_tN]; simp)]) ?_
      refine .q rfl (op_move rfl) trivial ?_
      refine .q rfl (op_bytes_str Tryd.underlying23 Tryd.underlying5 Tryd.underlying9 rfl rfl rfl (by omega)) trivial ?_
      refine .as (.str (tS w SE a by_)) (by rw [List.drop_zero, List.take_of_length_le (Nat.le_refl _)]) ?_
      refine .q rfl (op_move rfl) trivial ?_
      refine .q rfl (op_call (U := []) [] [] (ropen_ok (tK w key a by_) (tN w (List.replicate 12 (0 : UInt8)) a by_) (tS w SE a by_) (tX w (extra.take 30) by_) (by rw [length_tK]; exact hk) (by rw [length_tN]; rfl) (by rw [length_tS]; omega) (by have h9 := length_tX w (extra.take 30) by_; rw [List.length_take] at h9; omega) (by rw [length_tS]; omega) hTag) Tryd.func14 (by kernel_rfl) rfl rfl rfl (⟨⟨_, rfl, rfl, rfl⟩, ⟨_, rfl, rfl, rfl⟩, ⟨_, rfl, rfl, rfl⟩, ⟨_, rfl, rfl, rfl⟩, trivial⟩) (trivial) (trivial) (trivial) rfl) trivial ?_
      refine .q rfl (op_move rfl) trivial ?_
      refine .q rfl (op_extract rfl rfl) trivial ?_
      refine .q rfl (op_extract rfl rfl) trivial ?_
      refine .q rfl (op_assign rfl) trivial ?_
      refine .q rfl (op_assign rfl) trivial ?_
      refine .nil ?_
      show Ev _ _ _ _ _
      refine .seq ?_
      refine .region ?_
      refine .q (op_move rfl) trivial rfl ?_
      refine .q (op_move rfl) trivial rfl ?_
      refine .q (op_eqS rfl rfl rfl) trivial rfl ?_
      refine .q (op_move rfl) trivial rfl ?_
      refine .know (b' := true) (beq_self_eq_true _) ?_
      refine .q (op_move rfl) ⟨_, rfl, rfl⟩ rfl ?_
      refine .q (op_call (U := []) [] [] (code_0 eo hd) Tryd.func15 (by kernel_rfl) rfl rfl rfl (⟨⟨_, rfl, rfl, rfl⟩, trivial⟩) (⟨⟨_, _, rfl, rfl, rfl, rfl, (fun h => by cases h), rfl⟩, ⟨_, _, rfl, rfl, rfl, rfl, (fun h => by cases h), rfl⟩, ⟨_, _, rfl, rfl, rfl, rfl, (fun h => by cases h), rfl⟩, ⟨_, _, rfl, rfl, rfl, rfl, (fun h => by cases h), rfl⟩, ⟨_, _, rfl, rfl, rfl, rfl, (fun h => by cases h), rfl⟩, ⟨_, _, rfl, rfl, rfl, rfl, (fun h => by cases h), rfl⟩, ⟨_, _, rfl, rfl, rfl, rfl, (fun h => by cases h), rfl⟩, ⟨_, _, rfl, rfl, rfl, rfl, (fun h => by cases h), rfl⟩, ⟨_, _, rfl, rfl, rfl, rfl, (fun h => by cases h), rfl⟩, ⟨_, _, rfl, rfl, rfl, rfl, (fun h => by cases h), rfl⟩, ⟨_, _, rfl, rfl, rfl, rfl, (fun h => by cases h), rfl⟩, ⟨_, _, rfl, rfl, rfl, rfl, (fun h => by cases h), rfl⟩, ⟨_, _, rfl, rfl, rfl, rfl, (fun h => by cases h), rfl⟩, ⟨_, _, rfl, rfl, rfl, rfl, (fun h => by cases h), rfl⟩, ⟨_, _, rfl, rfl, rfl, rfl, (fun h => by cases h), rfl⟩, ⟨_, _, rfl, rfl, rfl, rfl, (fun h => by cases h), rfl⟩, ⟨_, _, rfl, rfl, rfl, rfl, (fun h => by cases h), rfl⟩, ⟨_, _, rfl, rfl, rfl, rfl, (fun h => by cases h), rfl⟩, ⟨_, _, rfl, rfl, rfl, rfl, (fun h => by cases h), rfl⟩, ⟨_, _, rfl, rfl, rfl, rfl, (fun h => by cases h), rfl⟩, ⟨_, _, rfl, rfl, rfl, rfl, (fun h => by cases h), rfl⟩, ⟨_, _, rfl, rfl, rfl, rfl, (fun h => by cases h), rfl⟩, ⟨_, _, rfl, rfl, rfl, rfl, (fun h => by cases h), rfl⟩, ⟨_, _, rfl, rfl, rfl, rfl, (fun h => by cases h), rfl⟩, ⟨_, _, rfl, rfl, rfl, rfl, (fun h => by cases h), rfl⟩, ⟨_, _, rfl, rfl, rfl, rfl, (fun h => by cases h), rfl⟩, ⟨_, _, rfl, rfl, rfl, rfl, (fun h => by cases h), rfl⟩, ⟨_, _, rfl, rfl, rfl, rfl, (fun h => by cases h), rfl⟩, ⟨_, _, rfl, rfl, rfl, rfl, (fun h => by cases h), rfl⟩, ⟨_, _, rfl, rfl, rfl, rfl, (fun h => by cases h), rfl⟩, ⟨_, _, rfl, rfl, rfl, rfl, (fun h => by cases h), rfl⟩, ⟨_, _, rfl, rfl, rfl, rfl, (fun h => by cases h), rfl⟩, ⟨_, _, rfl, rfl, rfl, rfl, (fun h => by cases h), rfl⟩, ⟨_, _, rfl, rfl, rfl, rfl, (fun h => by cases h), rfl⟩, ⟨_, _, rfl, rfl, rfl, rfl, (fun h => by cases h), rfl⟩, ⟨_, _, rfl, rfl, rfl, rfl, (fun h => by cases h), rfl⟩, ⟨_, _, rfl, rfl, rfl, rfl, (fun h => by cases h), rfl⟩, ⟨_, _, rfl, rfl, rfl, rfl, (fun h => by cases h), rfl⟩, ⟨_, _, rfl, rfl, rfl, rfl, (fun h => by cases h), rfl⟩, ⟨_, _, rfl, rfl, rfl, rfl, (fun h => by cases h), rfl⟩, trivial⟩) (trivial) (⟨(fun h => by cases h), (fun h => by cases h), (fun h => by cases h), (fun h => by cases h), (fun h => by cases h), (fun h => by cases h), (fun h => by cases h), (fun h => by cases h), (fun h => by cases h), (fun h => by cases h), (fun h => by cases h), (fun h => by cases h), (fun h => by cases h), (fun h => by cases h), (fun h => by cases h), (fun h => by cases h), (fun h => by cases h), (fun h => by cases h), (fun h => by cases h), (fun h => by cases h), (fun h => by cases h), (fun h => by cases h), (fun h => by cases h), (fun h => by cases h), (fun h => by cases h), (fun h => by cases h), (fun h => by cases h), (fun h => by cases h), (fun h => by cases h), (fun h => by cases h), (fun h => by cases h), (fun h => by cases h), (fun h => by cases h), (fun h => by cases h), (fun h => by cases h), (fun h => by cases h), (fun h => by cases h), (fun h => by cases h), (fun h => by cases h), (fun h => by cases h), trivial⟩) rfl) ⟨_, rfl, rfl⟩ rfl ?_
      refine .q (op_move rfl) ⟨_, rfl, rfl⟩ rfl ?_
      refine .q (op_cmpI rfl rfl rfl) ⟨_, rfl, rfl⟩ rfl ?_
      refine .q (op_pick_true rfl rfl rfl) trivial rfl ?_
      refine .q (op_assign rfl) trivial rfl ?_
      refine .nil ?_
      show Ev _ _ _ _ _
      refine .ret ?_
      show RetOk _ _ _ _ _ _ _
      exact ret1v rfl (.inl rfl) rfl rfl trivial
    · refine .q (op_call (U := []) [] [] (popen_mac e (tK w key a by_) (tN w (List.replicate 12 (0 : UInt8)) a by_) (tS w SE a by_) (tX w (extra.take 30) by_) (by rw [length_tK]; exact hk) (by rw [length_tN]; rfl) (by rw [length_tS]; omega) (by have h9 := length_tX w (extra.take 30) by_; rw [List.length_take] at h9; omega) (by rw [length_tS]; omega) hTag eo) Tryd.func13 (by kernel_rfl) rfl rfl rfl (⟨⟨_, rfl, rfl, rfl⟩, ⟨_, rfl, rfl, rfl⟩, ⟨_, rfl, rfl, rfl⟩, ⟨_, rfl, rfl, rfl⟩, trivial⟩) (⟨⟨_, _, rfl, rfl, rfl, rfl, (fun h => by cases h), rfl⟩, ⟨_, _, rfl, rfl, rfl, rfl, (fun h => by cases h), rfl⟩, trivial⟩) (trivial) (⟨(fun h => by cases h), (fun h => by cases h), trivial⟩) rfl) trivial rfl ?_
      refine .q (op_move rfl) trivial rfl ?_
      refine .q (op_extract rfl rfl) trivial rfl ?_
      refine .q (op_extract rfl rfl) trivial rfl ?_
      refine .q (op_assign rfl) trivial rfl ?_
      refine .q (op_assign rfl) trivial rfl ?_
      refine .nil ?_
      show Ev _ _ _ _ _
      refine .seq ?_
      refine .drawn [[], [0], [], [2], [], [4], [], [0, 1, 2, 3, 4, 5, 6], [0, 1, 2, 3, 4, 5, 6, 7], [0, 1, 2, 3, 4, 5, 6, 7, 8], [0, 1, 2, 3, 4, 5, 6, 7, 8], [0, 1, 2, 3, 4, 5, 6, 7, 8, 9], [0, 1, 2, 3, 4, 5, 6, 7, 8, 9, 10, 11]] [0, 1, 2, 3, 5, 7] [] (by kernel_rfl) (by kernel_rfl) rfl ?_
      show DK _ [0, 1, 2, 3, 4, 5, 6, 7, 8, 9, 10, 11, 12] _ _ _
      refine .q rfl (ap_slice_arr_hi Tryd.underlying22 inf5.sz rfl rfl (by first | (rw [show (AV.aggB (tK w key a by_)).len = (tK w key a by_).length from rfl, length_tK, hk]; omega) | omega) (by decide) rfl (by first | (rw [show (AV.aggB (tK w key a by_)).len = (tK w key a by_).length from rfl, length_tK, hk]; omega) | omega)) trivial ?_
      refine .q rfl (op_bytes_str Tryd.underlying23 Tryd.underlying5 Tryd.underlying9 rfl rfl rfl (by rw [length_tK, hk]; omega)) trivial ?_
      refine .as (.str (tK w key a by_)) (by rw [List.drop_zero, List.take_of_length_le (by rw [length_tK, hk]; omega)]) ?_
      refine .q rfl (ap_slice_arr_hi Tryd.underlying34 inf5.sz rfl rfl (by first | (rw [show (AV.aggB (tN w (List.replicate 12 (0 : UInt8)) a by_)).len = (tN w (List.replicate 12 (0 : UInt8)) a by_).length from rfl, length_tN]; simp; done) | omega) (by decide) rfl (by first | (rw [show (AV.aggB (tN w (List.replicate 12 (0 : UInt8)) a by_)).len = (tN w (List.replicate 12 (0 : UInt8)) a by_).length from rfl, length_tN]; simp; done) | omega)) trivial ?_
      refine .q rfl (op_bytes_str Tryd.underlying23 Tryd.underlying5 Tryd.underlying9 rfl rfl rfl (by rw [length_tN]; simp)) trivial ?_
      refine .as (.str (tN w (List.replicate 12 (0 : UInt8)) a by_)) (by rw [List.drop_zero, List.take_of_length_le (by rw [length_tN]; simp)]) ?_
      refine .q rfl (op_move rfl) trivial ?_
      refine .q rfl (op_bytes_str Tryd.underlying23 Tryd.underlying5 Tryd.underlying9 rfl rfl rfl (by omega)) trivial ?_
      refine .as (.str (tS w SE a by_)) (by rw [List.drop_zero, List.take_of_length_le (Nat.le_refl _)]) ?_
      refine .q rfl (op_move rfl) trivial ?_
      refine .q rfl (op_call (U := []) [] [] (ropen_mac (tK w key a by_) (tN w (List.replicate 12 (0 : UInt8)) a by_) (tS w SE a by_) (tX w (extra.take 30) by_) (by rw [length_tK]; exact hk) (by rw [length_tN]; rfl) (by rw [length_tS]; omega) (by have h9 := length_tX w (extra.take 30) by_; rw [List.length_take] at h9; omega) (by rw [length_tS]; omega) hTag) Tryd.func14 (by kernel_rfl) rfl rfl rfl (⟨⟨_, rfl, rfl, rfl⟩, ⟨_, rfl, rfl, rfl⟩, ⟨_, rfl, rfl, rfl⟩, ⟨_, rfl, rfl, rfl⟩, trivial⟩) (trivial) (trivial) (trivial) rfl) trivial ?_
      refine .q rfl (op_move rfl) trivial ?_
      refine .q rfl (op_extract rfl rfl) trivial ?_
      refine .q rfl (op_extract rfl rfl) trivial ?_
      refine .q rfl (op_assign rfl) trivial ?_
      refine .q rfl (op_assign rfl) trivial ?_
      refine .nil ?_
      show Ev _ _ _ _ _
      refine .seq ?_
      refine .region ?_
      refine .q (op_move rfl) trivial rfl ?_
      refine .q (op_move rfl) trivial rfl ?_
      refine .q (op_eqS rfl rfl rfl) trivial rfl ?_
      refine .q (op_move rfl) trivial rfl ?_
      refine .know (b' := true) (beq_self_eq_true _) ?_
      refine .q (op_move rfl) ⟨_, rfl, rfl⟩ rfl ?_
      refine .q (op_call (U := []) [] [] (code_5 eo hd) Tryd.func15 (by kernel_rfl) rfl rfl rfl (⟨⟨_, rfl, rfl, rfl⟩, trivial⟩) (⟨⟨_, _, rfl, rfl, rfl, rfl, (fun h => by cases h), rfl⟩, ⟨_, _, rfl, rfl, rfl, rfl, (fun h => by cases h), rfl⟩, ⟨_, _, rfl, rfl, rfl, rfl, (fun h => by cases h), rfl⟩, ⟨_, _, rfl, rfl, rfl, rfl, (fun h => by cases h), rfl⟩, ⟨_, _, rfl, rfl, rfl, rfl, (fun h => by cases h), rfl⟩, ⟨_, _, rfl, rfl, rfl, rfl, (fun h => by cases h), rfl⟩, ⟨_, _, rfl, rfl, rfl, rfl, (fun h => by cases h), rfl⟩, ⟨_, _, rfl, rfl, rfl, rfl, (fun h => by cases h), rfl⟩, ⟨_, _, rfl, rfl, rfl, rfl, (fun h => by cases h), rfl⟩, ⟨_, _, rfl, rfl, rfl, rfl, (fun h => by cases h), rfl⟩, ⟨_, _, rfl, rfl, rfl, rfl, (fun h => by cases h), rfl⟩, ⟨_, _, rfl, rfl, rfl, rfl, (fun h => by cases h), rfl⟩, ⟨_, _, rfl, rfl, rfl, rfl, (fun h => by cases h), rfl⟩, ⟨_, _, rfl, rfl, rfl, rfl, (fun h => by cases h), rfl⟩, ⟨_, _, rfl, rfl, rfl, rfl, (fun h => by cases h), rfl⟩, ⟨_, _, rfl, rfl, rfl, rfl, (fun h => by cases h), rfl⟩, ⟨_, _, rfl, rfl, rfl, rfl, (fun h => by cases h), rfl⟩, ⟨_, _, rfl, rfl, rfl, rfl, (fun h => by cases h), rfl⟩, ⟨_, _, rfl, rfl, rfl, rfl, (fun h => by cases h), rfl⟩, ⟨_, _, rfl, rfl, rfl, rfl, (fun h => by cases h), rfl⟩, ⟨_, _, rfl, rfl, rfl, rfl, (fun h => by cases h), rfl⟩, ⟨_, _, rfl, rfl, rfl, rfl, (fun h => by cases h), rfl⟩, ⟨_, _, rfl, rfl, rfl, rfl, (fun h => by cases h), rfl⟩, ⟨_, _, rfl, rfl, rfl, rfl, (fun h => by cases h), rfl⟩, ⟨_, _, rfl, rfl, rfl, rfl, (fun h => by cases h), rfl⟩, ⟨_, _, rfl, rfl, rfl, rfl, (fun h => by cases h), rfl⟩, ⟨_, _, rfl, rfl, rfl, rfl, (fun h => by cases h), rfl⟩, ⟨_, _, rfl, rfl, rfl, rfl, (fun h => by cases h), rfl⟩, ⟨_, _, rfl, rfl, rfl, rfl, (fun h => by cases h), rfl⟩, ⟨_, _, rfl, rfl, rfl, rfl, (fun h => by cases h), rfl⟩, ⟨_, _, rfl, rfl, rfl, rfl, (fun h => by cases h), rfl⟩, ⟨_, _, rfl, rfl, rfl, rfl, (fun h => by cases h), rfl⟩, ⟨_, _, rfl, rfl, rfl, rfl, (fun h => by cases h), rfl⟩, ⟨_, _, rfl, rfl, rfl, rfl, (fun h => by cases h), rfl⟩, ⟨_, _, rfl, rfl, rfl, rfl, (fun h => by cases h), rfl⟩, ⟨_, _, rfl, rfl, rfl, rfl, (fun h => by cases h), rfl⟩, ⟨_, _, rfl, rfl, rfl, rfl, (fun h => by cases h), rfl⟩, ⟨_, _, rfl, rfl, rfl, rfl, (fun h => by cases h), rfl⟩, ⟨_, _, rfl, rfl, rfl, rfl, (fun h => by cases h), rfl⟩, ⟨_, _, rfl, rfl, rfl, rfl, (fun h => by cases h), rfl⟩, trivial⟩) (trivial) (⟨(fun h => by cases h), (fun h => by cases h), (fun h => by cases h), (fun h => by cases h), (fun h => by cases h), (fun h => by cases h), (fun h => by cases h), (fun h => by cases h), (fun h => by cases h), (fun h => by cases h), (fun h => by cases h), (fun h => by cases h), (fun h => by cases h), (fun h => by cases h), (fun h => by cases h), (fun h => by cases h), (fun h => by cases h), (fun h => by cases h), (fun h => by cases h), (fun h => by cases h), (fun h => by cases h), (fun h => by cases h), (fun h => by cases h), (fun h => by cases h), (fun h => by cases h), (fun h => by cases h), (fun h => by cases h), (fun h => by cases h), (fun h => by cases h), (fun h => by cases h), (fun h => by cases h), (fun h => by cases h), (fun h => by cases h), (fun h => by cases h), (fun h => by cases h), (fun h => by cases h), (fun h => by cases h), (fun h => by cases h), (fun h => by cases h), (fun h => by cases h), trivial⟩) rfl) ⟨_, rfl, rfl⟩ rfl ?_
      refine .q (op_move rfl) ⟨_, rfl, rfl⟩ rfl ?_
      refine .q (op_cmpI rfl rfl rfl) ⟨_, rfl, rfl⟩ rfl ?_
      refine .q (op_pick_true rfl rfl rfl) trivial rfl ?_
      refine .q (op_assign rfl) trivial rfl ?_
      refine .nil ?_
      show Ev _ _ _ _ _
      refine .ret ?_
      show RetOk _ _ _ _ _ _ _
      exact ret1v rfl (.inl rfl) rfl rfl trivial
  · first | replace hc44 := of_decide_eq_true hc44 | replace hc44 := of_decide_eq_false hc44 | replace hc44 := eq_of_beq hc44 | replace hc44 := ne_of_beq_false hc44 | simp only [bne_iff_ne, ne_eq] at hc44 | simp only [bne_eq_false_iff_eq] at hc44
    refine .seq ?_
    refine .region ?_
    refine .q (op_cmpI rfl rfl rfl) trivial rfl ?_
    refine .q (op_assign rfl) trivial rfl ?_
    refine .nil ?_
    show Ev _ _ _ _ _
    refine .cond rfl (fun hc57 => ?_) (fun hc57 => ?_)
    · first | replace hc57 := of_decide_eq_true hc57 | replace hc57 := of_decide_eq_false hc57 | replace hc57 := eq_of_beq hc57 | replace hc57 := ne_of_beq_false hc57 | simp only [bne_iff_ne, ne_eq] at hc57 | simp only [bne_eq_false_iff_eq] at hc57
      refine .region ?_
      refine .q (op_move rfl) trivial rfl ?_
      refine .q (op_fieldAddr (m := 0) Tryd.underlying40 rfl (by kernel_rfl) rfl) trivial rfl ?_
      refine .as (.ptr 1000 36) rfl ?_
      refine .q (op_load Tryd.underlying5 rfl rfl rfl (turn_nth hk 4 rfl) (turn_lt hk 36 (by decide))) trivial rfl ?_
      refine .a (ap_build (us := [_]) (c := .aggB [_]) Tryd.underlying23 inf5 rfl (by decide) (by decide) ⟨rfl, rfl, rfl, trivial⟩ rfl) trivial rfl ?_
      refine .q (op_bytes_str Tryd.underlying23 Tryd.underlying5 Tryd.underlying9 rfl rfl rfl (by simp)) trivial rfl ?_
      refine .as (.str [by_]) rfl ?_
      refine .q (op_addS rfl rfl (by simp; omega)) trivial rfl ?_
      refine .q (op_assign rfl) trivial rfl ?_
      refine .nil ?_
      show Ev _ _ _ _ _
      refine .seq ?_
      refine Ev.weak (st2 := ⟨[(2, .bool false), (4, .str (tX w (extra.take 30) by_)), (5, .ptr 1072 0), (6, .sl 1080 0 (tS w SE a by_).length 1), (7, .ptr 1088 0)], [(1072, some ⟨.aggB (tN w (List.replicate 12 (0 : UInt8)) a by_), 34, true⟩), (1080, some ⟨.aggB (tS w SE a by_), 5, true⟩), (1088, some ⟨.aggB (tK w key a by_), 22, true⟩), (21, some ⟨.aggI qsTab, e, false⟩), (2, some ⟨.agg [.err 192 (1) (offE eo (1))], errT, false⟩), (0, some ⟨.agg [.err 192 (2) (offE eo (2))], errT, false⟩), (3, some ⟨.agg [.err 192 (3) (offE eo (3))], errT, false⟩), (4, some ⟨.agg [.err 192 (4) (offE eo (4))], errT, false⟩), (1, some ⟨.agg [.err 192 (5) (offE eo (5))], errT, false⟩), (5, some ⟨.agg [.err 192 (6) (offE eo (6))], errT, false⟩), (6, some ⟨.agg [.err 192 (7) (offE eo (7))], errT, false⟩), (7, some ⟨.agg [.err 192 (8) (offE eo (8))], errT, false⟩), (8, some ⟨.agg [.err 192 (9) (offE eo (9))], errT, false⟩), (9, some ⟨.agg [.err 192 (10) (offE eo (10))], errT, false⟩), (10, some ⟨.agg [.err 192 (11) (offE eo (11))], errT, false⟩), (11, some ⟨.agg [.err 192 (12) (offE eo (12))], errT, false⟩), (12, some ⟨.agg [.err 192 (13) (offE eo (13))], errT, false⟩), (13, some ⟨.agg [.err 192 (14) (offE eo (14))], errT, false⟩), (14, some ⟨.agg [.err 192 (15) (offE eo (15))], errT, false⟩), (15, some ⟨.agg [.err 192 (16) (offE eo (16))], errT, false⟩), (16, some ⟨.agg [.err 192 (17) (offE eo (17))], errT, false⟩), (17, some ⟨.agg [.err 192 (18) (offE eo (18))], errT, false⟩), (18, some ⟨.agg [.err 192 (19) (offE eo (19))], errT, false⟩), (19, some ⟨.agg [.err 192 (20) (offE eo (20))], errT, false⟩), (401, some ⟨.agg [], errT, false⟩), (402, some ⟨.agg [], errT, false⟩), (403, some ⟨.agg [], errT, false⟩), (404, some ⟨.agg [], errT, false⟩), (405, some ⟨.agg [], errT, false⟩), (406, some ⟨.agg [], errT, false⟩), (407, some ⟨.agg [], errT, false⟩), (408, some ⟨.agg [], errT, false⟩), (409, some ⟨.agg [], errT, false⟩), (410, some ⟨.agg [], errT, false⟩), (411, some ⟨.agg [], errT, false⟩), (412, some ⟨.agg [], errT, false⟩), (413, some ⟨.agg [], errT, false⟩), (414, some ⟨.agg [], errT, false⟩), (415, some ⟨.agg [], errT, false⟩), (416, some ⟨.agg [], errT, false⟩), (417, some ⟨.agg [], errT, false⟩), (418, some ⟨.agg [], errT, false⟩), (419, some ⟨.agg [], errT, false⟩), (420, some ⟨.agg [], errT, false⟩)], 1096⟩) ?_ ?_
      · exact StLe.mk [(1072, 1072), (1080, 1080), (1088, 1088)] rfl rfl ⟨⟨_, rfl, by rfl, rfl⟩, ⟨_, rfl, by (first | exact congrArg AV.str (tX_0 hc44) | exact congrArg AV.str (tX_y hc57) | exact congrArg AV.str (tX_n hc57)), rfl⟩, ⟨_, rfl, by rfl, rfl⟩, ⟨_, rfl, by (exact congrArg (fun n => AV.sl 1080 0 n 1) (length_tS _ _ _ _).symm), rfl⟩, ⟨_, rfl, by rfl, rfl⟩, trivial⟩ ⟨⟨_, _, rfl, rfl, by (first | exact congrArg AV.aggB (tN_0 hc44) | exact congrArg AV.aggB (tN_1 hc57) | exact congrArg AV.aggB (tN_y hc65) | exact congrArg AV.aggB (tN_n hc65)), rfl, id, rfl⟩, ⟨_, _, rfl, rfl, by (first | exact congrArg AV.aggB (tS_y hc44) | exact congrArg AV.aggB (tS_n hc44)), rfl, id, rfl⟩, ⟨_, _, rfl, rfl, by (first | exact congrArg AV.aggB (tK_0 hc44) | exact congrArg AV.aggB (tK_1 hc44 hc57) | exact congrArg AV.aggB (tK_2 hc44 hc57 hc65) | exact congrArg AV.aggB (tK_y hc44 hc57 hc65)), rfl, id, rfl⟩, ⟨_, _, rfl, rfl, rfl, rfl, id, rfl⟩, ⟨_, _, rfl, rfl, rfl, rfl, id, rfl⟩, ⟨_, _, rfl, rfl, rfl, rfl, id, rfl⟩, ⟨_, _, rfl, rfl, rfl, rfl, id, rfl⟩, ⟨_, _, rfl, rfl, rfl, rfl, id, rfl⟩, ⟨_, _, rfl, rfl, rfl, rfl, id, rfl⟩, ⟨_, _, rfl, rfl, rfl, rfl, id, rfl⟩, ⟨_, _, rfl, rfl, rfl, rfl, id, rfl⟩, ⟨_, _, rfl, rfl, rfl, rfl, id, rfl⟩, ⟨_, _, rfl, rfl, rfl, rfl, id, rfl⟩, ⟨_, _, rfl, rfl, rfl, rfl, id, rfl⟩, ⟨_, _, rfl, rfl, rfl, rfl, id, rfl⟩, ⟨_, _, rfl, rfl, rfl, rfl, id, rfl⟩, ⟨_, _, rfl, rfl, rfl, rfl, id, rfl⟩, ⟨_, _, rfl, rfl, rfl, rfl, id, rfl⟩, ⟨_, _, rfl, rfl, rfl, rfl, id, rfl⟩, ⟨_, _, rfl, rfl, rfl, rfl, id, rfl⟩, ⟨_, _, rfl, rfl, rfl, rfl, id, rfl⟩, ⟨_, _, rfl, rfl, rfl, rfl, id, rfl⟩, ⟨_, _, rfl, rfl, rfl, rfl, id, rfl⟩, ⟨_, _, rfl, rfl, rfl, rfl, id, rfl⟩, ⟨_, _, rfl, rfl, rfl, rfl, id, rfl⟩, ⟨_, _, rfl, rfl, rfl, rfl, id, rfl⟩, ⟨_, _, rfl, rfl, rfl, rfl, id, rfl⟩, ⟨_, _, rfl, rfl, rfl, rfl, id, rfl⟩, ⟨_, _, rfl, rfl, rfl, rfl, id, rfl⟩, ⟨_, _, rfl, rfl, rfl, rfl, id, rfl⟩, ⟨_, _, rfl, rfl, rfl, rfl, id, rfl⟩, ⟨_, _, rfl, rfl, rfl, rfl, id, rfl⟩, ⟨_, _, rfl, rfl, rfl, rfl, id, rfl⟩, ⟨_, _, rfl, rfl, rfl, rfl, id, rfl⟩, ⟨_, _, rfl, rfl, rfl, rfl, id, rfl⟩, ⟨_, _, rfl, rfl, rfl, rfl, id, rfl⟩, ⟨_, _, rfl, rfl, rfl, rfl, id, rfl⟩, ⟨_, _, rfl, rfl, rfl, rfl, id, rfl⟩, ⟨_, _, rfl, rfl, rfl, rfl, id, rfl⟩, ⟨_, _, rfl, rfl, rfl, rfl, id, rfl⟩, ⟨_, _, rfl, rfl, rfl, rfl, id, rfl⟩, ⟨_, _, rfl, rfl, rfl, rfl, id, rfl⟩, ⟨_, _, rfl, rfl, rfl, rfl, id, rfl⟩, ⟨_, _, rfl, rfl, rfl, rfl, id, rfl⟩, trivial⟩
      refine .region ?_
      refine .q (op_loadRow Tryd.underlying22 rfl sz22 rfl rfl rfl (by rw [show (AV.aggB (tK w key a by_)).len = (tK w key a by_).length from rfl, length_tK]; exact hk)) trivial rfl ?_
      refine .q (op_loadRow Tryd.underlying34 rfl sz34 rfl rfl rfl (by rw [show (AV.aggB (tN w (List.replicate 12 (0 : UInt8)) a by_)).len = (tN w (List.replicate 12 (0 : UInt8)) a by_).length from rfl, length_tN]; rfl)) trivial rfl ?_
      refine .q (op_move rfl) trivial rfl ?_
      refine .q (op_bytes_str Tryd.underlying23 Tryd.underlying5 Tryd.underlying9 rfl rfl rfl (by omega)) trivial rfl ?_
      refine .as (.str (tS w SE a by_)) (by rw [List.drop_zero, List.take_of_length_le (Nat.le_refl _)]) ?_
      refine .q (op_move rfl) trivial rfl ?_
      refine dite ((tS w SE a by_).drop ((tS w SE a by_).length - 16) = (tagL (tK w key a by_) (tN w (List.replicate 12 (0 : UInt8)) a by_) ((tS w SE a by_).take ((tS w SE a by_).length - 16)) (tX w (extra.take 30) by_))) (fun hTag => ?_) (fun hTag => ?_)
      · refine .q (op_call (U := []) [] [] (popen_ok e (tK w key a by_) (tN w (List.replicate 12 (0 : UInt8)) a by_) (tS w SE a by_) (tX w (extra.take 30) by_) (by rw [length_tK]; exact hk) (by rw [length_tN]; rfl) (by rw [length_tS]; omega) (by have h9 := length_tX w (extra.take 30) by_; rw [List.length_take] at h9; omega) (by rw [length_tS]; omega) hTag eo) Tryd.func13 (by kernel_rfl) rfl rfl rfl (⟨⟨_, rfl, rfl, rfl⟩, ⟨_, rfl, rfl, rfl⟩, ⟨_, rfl, rfl, rfl⟩, ⟨_, rfl, rfl, rfl⟩, trivial⟩) (⟨⟨_, _, rfl, rfl, rfl, rfl, (fun h => by cases h), rfl⟩, trivial⟩) (trivial) (⟨(fun h => by cases h), trivial⟩) rfl) trivial rfl ?_
        refine .q (op_move rfl) trivial rfl ?_
        refine .q (op_extract rfl rfl) trivial rfl ?_
        refine .q (op_extract rfl rfl) trivial rfl ?_
        refine .q (op_assign rfl) trivial rfl ?_
        refine .q (op_assign rfl) trivial rfl ?_
        refine .nil ?_
        show Ev _ _ _ _ _
        refine .seq ?_
        refine .drawn [[], [0], [], [2], [], [4], [], [0, 1, 2, 3, 4, 5, 6], [0, 1, 2, 3, 4, 5, 6, 7], [0, 1, 2, 3, 4, 5, 6, 7, 8], [0, 1, 2, 3, 4, 5, 6, 7, 8], [0, 1, 2, 3, 4, 5, 6, 7, 8, 9], [0, 1, 2, 3, 4, 5, 6, 7, 8, 9, 10, 11]] [0, 1, 2, 3, 5, 7] [] (by kernel_rfl) (by kernel_rfl) rfl ?_
        show DK _ [0, 1, 2, 3, 4, 5, 6, 7, 8, 9, 10, 11, 12] _ _ _
        refine .q rfl (ap_slice_arr_hi Tryd.underlying22 inf5.sz rfl rfl (by first | (rw [show (AV.aggB (tK w key a by_)).len = (tK w key a by_).length from rfl, length_tK, hk]; omega) | omega) (by decide) rfl (by first | (rw [show (AV.aggB (tK w key a by_)).len = (tK w key a by_).length from rfl, length_tK, hk]; omega) | omega)) trivial ?_
        refine .q rfl (op_bytes_str Tryd.underlying23 Tryd.underlying5 Tryd.underlying9 rfl rfl rfl (by rw [length_tK, hk]; omega)) trivial ?_
        refine .as (.str (tK w key a by_)) (by rw [List.drop_zero, List.take_of_length_le (by rw [length_tK, hk]; omega)]) ?_
        refine .q rfl (ap_slice_arr_hi Tryd.underlying34 inf5.sz rfl rfl (by first | (rw [show (AV.aggB (tN w (List.replicate 12 (0 : UInt8)) a by_)).len = (tN w (List.replicate 12 (0 : UInt8)) a by_).length from rfl, length_tN]; simp; done) | omega) (by decide) rfl (by first | (rw [show (AV.aggB (tN w (List.replicate 12 (0 : UInt8)) a by_)).len = (tN w (List.replicate 12 (0 : UInt8)) a by_).length from rfl, length_tN]; simp; done) | omega)) trivial ?_
        refine .q rfl (op_bytes_str Tryd.underlying23 Tryd.underlying5 Tryd.underlying9 rfl rfl rfl (by rw [length_tN]; simp)) trivial ?_
        refine .as (.str (tN w (List.replicate 12 (0 : UInt8)) a by_)) (by rw [List.drop_zero, List.take_of_length_le (by rw [length_tN]; simp)]) ?_
        refine .q rfl (op_move rfl) trivial ?_
        refine .q rfl (op_bytes_str Tryd.underlying23 Tryd.underlying5 Tryd.underlying9 rfl rfl rfl (by omega)) trivial ?_
        refine .as (.str (tS w SE a by_)) (by rw [List.drop_zero, List.take_of_length_le (Nat.le_refl _)]) ?_
        refine .q rfl (op_move rfl) trivial ?_
        refine .q rfl (op_call (U := []) [] [] (ropen_ok (tK w key a by_) (tN w (List.replicate 12 (0 : UInt8)) a by_) (tS w SE a by_) (tX w (extra.take 30) by_) (by rw [length_tK]; exact hk) (by rw [length_tN]; rfl) (by rw [length_tS]; omega) (by have h9 := length_tX w (extra.take 30) by_; rw [List.length_take] at h9; omega) (by rw [length_tS]; omega) hTag) Tryd.func14 (by kernel_rfl) rfl rfl rfl (⟨⟨_, rfl, rfl, rfl⟩, ⟨_, rfl, rfl, rfl⟩, ⟨_, rfl, rfl, rfl⟩, ⟨_, rfl, rfl, rfl⟩, trivial⟩) (trivial) (trivial) (trivial) rfl) trivial ?_
        refine .q rfl (op_move rfl) trivial ?_
        refine .q rfl (op_extract rfl rfl) trivial ?_
        refine .q rfl (op_extract rfl rfl) trivial ?_
        refine .q rfl (op_assign rfl) trivial ?_
        refine .q rfl (op_assign rfl) trivial ?_
        refine .nil ?_
        show Ev _ _ _ _ _
        refine .seq ?_
        refine .region ?_
        refine .q (op_move rfl) trivial rfl ?_
        refine .q (op_move rfl) trivial rfl ?_
        refine .q (op_eqS rfl rfl rfl) trivial rfl ?_
        refine .q (op_move rfl) trivial rfl ?_
        refine .know (b' := true) (beq_self_eq_true _) ?_
        refine .q (op_move rfl) ⟨_, rfl, rfl⟩ rfl ?_
        refine .q (op_call (U := []) [] [] (code_0 eo hd) Tryd.func15 (by kernel_rfl) rfl rfl rfl (⟨⟨_, rfl, rfl, rfl⟩, trivial⟩) (⟨⟨_, _, rfl, rfl, rfl, rfl, (fun h => by cases h), rfl⟩, ⟨_, _, rfl, rfl, rfl, rfl, (fun h => by cases h), rfl⟩, ⟨_, _, rfl, rfl, rfl, rfl, (fun h => by cases h), rfl⟩, ⟨_, _, rfl, rfl, rfl, rfl, (fun h => by cases h), rfl⟩, ⟨_, _, rfl, rfl, rfl, rfl, (fun h => by cases h), rfl⟩, ⟨_, _, rfl, rfl, rfl, rfl, (fun h => by cases h), rfl⟩, ⟨_, _, rfl, rfl, rfl, rfl, (fun h => by cases h), rfl⟩, ⟨_, _, rfl, rfl, rfl, rfl, (fun h => by cases h), rfl⟩, ⟨_, _, rfl, rfl, rfl, rfl, (fun h => by cases h), rfl⟩, ⟨_, _, rfl, rfl, rfl, rfl, (fun h => by cases h), rfl⟩, ⟨_, _, rfl, rfl, rfl, rfl, (fun h => by cases h), rfl⟩, ⟨_, _, rfl, rfl, rfl, rfl, (fun h => by cases h), rfl⟩, ⟨_, _, rfl, rfl, rfl, rfl, (fun h => by cases h), rfl⟩, ⟨_, _, rfl, rfl, rfl, rfl, (fun h => by cases h), rfl⟩, ⟨_, _, rfl, rfl, rfl, rfl, (fun h => by cases h), rfl⟩, ⟨_, _, rfl, rfl, rfl, rfl, (fun h => by cases h), rfl⟩, ⟨_, _, rfl, rfl, rfl, rfl, (fun h => by cases h), rfl⟩, ⟨_, _, rfl, rfl, rfl, rfl, (fun h => by cases h), rfl⟩, ⟨_, _, rfl, rfl, rfl, rfl, (fun h => by cases h), rfl⟩, ⟨_, _, rfl, rfl, rfl, rfl, (fun h => by cases h), rfl⟩, ⟨_, _, rfl, rfl, rfl, rfl, (fun h => by cases h), rfl⟩, ⟨_, _, rfl, rfl, rfl, rfl, (fun h => by cases h), rfl⟩, ⟨_, _, rfl, rfl, rfl, rfl, (fun h => by cases h), rfl⟩, ⟨_, _, rfl, rfl, rfl, rfl, (fun h => by cases h), rfl⟩, ⟨_, _, rfl, rfl, rfl, rfl, (fun h => by cases h), rfl⟩, ⟨_, _, rfl, rfl, rfl, rfl, (fun h => by cases h), rfl⟩, ⟨_, _, rfl, rfl, rfl, rfl, (fun h => by cases h), rfl⟩, ⟨_, _, rfl, rfl, rfl, rfl, (fun h => by cases h), rfl⟩, ⟨_, _, rfl, rfl, rfl, rfl, (fun h => by cases h), rfl⟩, ⟨_, _, rfl, rfl, rfl, rfl, (fun h => by cases h), rfl⟩, ⟨_, _, rfl, rfl, rfl, rfl, (fun h => by cases h), rfl⟩, ⟨_, _, rfl, rfl, rfl, rfl, (fun h => by cases h), rfl⟩, ⟨_, _, rfl, rfl, rfl, rfl, (fun h => by cases h), rfl⟩, ⟨_, _, rfl, rfl, rfl, rfl, (fun h => by cases h), rfl⟩, ⟨_, _, rfl, rfl, rfl, rfl, (fun h => by cases h), rfl⟩, ⟨_, _, rfl, rfl, rfl, rfl, (fun h => by cases h), rfl⟩, ⟨_, _, rfl, rfl, rfl, rfl, (fun h => by cases h), rfl⟩, ⟨_, _, rfl, rfl, rfl, rfl, (fun h => by cases h), rfl⟩, ⟨_, _, rfl, rfl, rfl, rfl, (fun h => by cases h), rfl⟩, ⟨_, _, rfl, rfl, rfl, rfl, (fun h => by cases h), rfl⟩, trivial⟩) (trivial) (⟨(fun h => by cases h), (fun h => by cases h), (fun h => by cases h), (fun h => by cases h), (fun h => by cases h), (fun h => by cases h), (fun h => by cases h), (fun h => by cases h), (fun h => by cases h), (fun h => by cases h), (fun h => by cases h), (fun h => by cases h), (fun h => by cases h), (fun h => by cases h), (fun h => by cases h), (fun h => by cases h), (fun h => by cases h), (fun h => by cases h), (fun h => by cases h), (fun h => by cases h), (fun h => by cases h), (fun h => by cases h), (fun h => by cases h), (fun h => by cases h), (fun h => by cases h), (fun h => by cases h), (fun h => by cases h), (fun h => by cases h), (fun h => by cases h), (fun h => by cases h), (fun h => by cases h), (fun h => by cases h), (fun h => by cases h), (fun h => by cases h), (fun h => by cases h), (fun h => by cases h), (fun h => by cases h), (fun h => by cases h), (fun h => by cases h), (fun h => by cases h), trivial⟩) rfl) ⟨_, rfl, rfl⟩ rfl ?_
        refine .q (op_move rfl) ⟨_, rfl, rfl⟩ rfl ?_
        refine .q (op_cmpI rfl rfl rfl) ⟨_, rfl, rfl⟩ rfl ?_
        refine .q (op_pick_true rfl rfl rfl) trivial rfl ?_
        refine .q (op_assign rfl) trivial rfl ?_
        refine .nil ?_
        show Ev _ _ _ _ _
        refine .ret ?_
        show RetOk _ _ _ _ _ _ _
        exact ret1v rfl (.inl rfl) rfl rfl trivial
      · refine .q (op_call (U := []) [] [] (popen_mac e (tK w key a by_) (tN w (List.replicate 12 (0 : UInt8)) a by_) (tS w SE a by_) (tX w (extra.take 30) by_) (by rw [length_tK]; exact hk) (by rw [length_tN]; rfl) (by rw [length_tS]; omega) (by have h9 := length_tX w (extra.take 30) by_; rw [List.length_take] at h9; omega) (by rw [length_tS]; omega) hTag eo) Tryd.func13 (by kernel_rfl) rfl rfl rfl (⟨⟨_, rfl, rfl, rfl⟩, ⟨_, rfl, rfl, rfl⟩, ⟨_, rfl, rfl, rfl⟩, ⟨_, rfl, rfl, rfl⟩, trivial⟩) (⟨⟨_, _, rfl, rfl, rfl, rfl, (fun h => by cases h), rfl⟩, ⟨_, _, rfl, rfl, rfl, rfl, (fun h => by cases h), rfl⟩, trivial⟩) (trivial) (⟨(fun h => by cases h), (fun h => by cases h), trivial⟩) rfl) trivial rfl ?_
        refine .q (op_move rfl) trivial rfl ?_
        refine .q (op_extract rfl rfl) trivial rfl ?_
        refine .q (op_extract rfl rfl) trivial rfl ?_
        refine .q (op_assign rfl) trivial rfl ?_
        refine .q (op_assign rfl) trivial rfl ?_
        refine .nil ?_
        show Ev _ _ _ _ _
        refine .seq ?_
        refine .drawn [[], [0], [], [2], [], [4], [], [0, 1, 2, 3, 4, 5, 6], [0, 1, 2, 3, 4, 5, 6, 7], [0, 1, 2, 3, 4, 5, 6, 7, 8], [0, 1, 2, 3, 4, 5, 6, 7, 8], [0, 1, 2, 3, 4, 5, 6, 7, 8, 9], [0, 1, 2, 3, 4, 5, 6, 7, 8, 9, 10, 11]] [0, 1, 2, 3, 5, 7] [] (by kernel_rfl) (by kernel_rfl) rfl ?_
        show DK _ [0, 1, 2, 3, 4, 5, 6, 7, 8, 9, 10, 11, 12] _ _ _
        refine .q rfl (ap_slice_arr_hi Tryd.underlying22 inf5.sz rfl rfl (by first | (rw [show (AV.aggB (tK w key a by_)).len = (tK w key a by_).length from rfl, length_tK, hk]; omega) | omega) (by decide) rfl (by first | (rw [show (AV.aggB (tK w key a by_)).len = (tK w key a by_).length from rfl, length_tK, hk]; omega) | omega)) trivial ?_
        refine .q rfl (op_bytes_str Tryd.underlying23 Tryd.underlying5 Tryd.underlying9 rfl rfl rfl (by rw [length_tK, hk]; omega)) trivial ?_
        refine .as (.str (tK w key a by_)) (by rw [List.drop_zero, List.take_of_length_le (by rw [length_tK, hk]; omega)]) ?_
        refine .q rfl (ap_slice_arr_hi Tryd.underlying34 inf5.sz rfl rfl (by first | (rw [show (AV.aggB (tN w (List.replicate 12 (0 : UInt8)) a by_)).len = (tN w (List.replicate 12 (0 : UInt8)) a by_).length from rfl, length_tN]; simp; done) | omega) (by decide) rfl (by first | (rw [show (AV.aggB (tN w (List.replicate 12 (0 : UInt8)) a by_)).len = (tN w (List.replicate 12 (0 : UInt8)) a by_).length from rfl, length_tN]; simp; done) | omega)) trivial ?_
        refine .q rfl (op_bytes_str Tryd.underlying23 Tryd.underlying5 Tryd.underlying9 rfl rfl rfl (by rw [length_tN]; simp)) trivial ?_
        refine .as (.str (tN w (List.replicate 12 (0 : UInt8)) a by_)) (by rw [List.drop_zero, List.take_of_length_le (by rw [length_tN]; simp)]) ?_
        refine .q rfl (op_move rfl) trivial ?_
        refine .q rfl (op_bytes_str Tryd.underlying23 Tryd.underlying5 Tryd.underlying9 rfl rfl rfl (by omega)) trivial ?_
        refine .as (.str (tS w SE a by_)) (by rw [List.drop_zero, List.take_of_length_le (Nat.le_refl _)]) ?_
        refine .q rfl (op_move rfl) trivial ?_
        refine .q rfl (op_call (U := []) [] [] (ropen_mac (tK w key a by_) (tN w (List.replicate 12 (0 : UInt8)) a by_) (tS w SE a by_) (tX w (extra.take 30) by_) (by rw [length_tK]; exact hk) (by rw [length_tN]; rfl) (by rw [length_tS]; omega) (by have h9 := length_tX w (extra.take 30) by_; rw [List.length_take] at h9; omega) (by rw [length_tS]; omega) hTag) Tryd.func14 (by kernel_rfl) rfl rfl rfl (⟨⟨_, rfl, rfl, rfl⟩, ⟨_, rfl, rfl, rfl⟩, ⟨_, rfl, rfl, rfl⟩, ⟨_, rfl, rfl, rfl⟩, trivial⟩) (trivial) (trivial) (trivial) rfl) trivial ?_
        refine .q rfl (op_move rfl) trivial ?_
        refine .q rfl (op_extract rfl rfl) trivial ?_
        refine .q rfl (op_extract rfl rfl) trivial ?_
        refine .q rfl (op_assign rfl) trivial ?_
        refine .q rfl (op_assign rfl) trivial ?_
        refine .nil ?_
        show Ev _ _ _ _ _
        refine .seq ?_
        refine .region ?_
        refine .q (op_move rfl) trivial rfl ?_
        refine .q (op_move rfl) trivial rfl ?_
        refine .q (op_eqS rfl rfl rfl) trivial rfl ?_
        refine .q (op_move rfl) trivial rfl ?_
        refine .know (b' := true) (beq_self_eq_true _) ?_
        refine .q (op_move rfl) ⟨_, rfl, rfl⟩ rfl ?_
        refine .q (op_call (U := []) [] [] (code_5 eo hd) Tryd.func15 (by kernel_rfl) rfl rfl rfl (⟨⟨_, rfl, rfl, rfl⟩, trivial⟩) (⟨⟨_, _, rfl, rfl, rfl, rfl, (fun h => by cases h), rfl⟩, ⟨_, _, rfl, rfl, rfl, rfl, (fun h => by cases h), rfl⟩, ⟨_, _, rfl, rfl, rfl, rfl, (fun h => by cases h), rfl⟩, ⟨_, _, rfl, rfl, rfl, rfl, (fun h => by cases h), rfl⟩, ⟨_, _, rfl, rfl, rfl, rfl, (fun h => by cases h), rfl⟩, ⟨_, _, rfl, rfl, rfl, rfl, (fun h => by cases h), rfl⟩, ⟨_, _, rfl, rfl, rfl, rfl, (fun h => by cases h), rfl⟩, ⟨_, _, rfl, rfl, rfl, rfl, (fun h => by cases h), rfl⟩, ⟨_, _, rfl, rfl, rfl, rfl, (fun h => by cases h), rfl⟩, ⟨_, _, rfl, rfl, rfl, rfl, (fun h => by cases h), rfl⟩, ⟨_, _, rfl, rfl, rfl, rfl, (fun h => by cases h), rfl⟩, ⟨_, _, rfl, rfl, rfl, rfl, (fun h => by cases h), rfl⟩, ⟨_, _, rfl, rfl, rfl, rfl, (fun h => by cases h), rfl⟩, ⟨_, _, rfl, rfl, rfl, rfl, (fun h => by cases h), rfl⟩, ⟨_, _, rfl, rfl, rfl, rfl, (fun h => by cases h), rfl⟩, ⟨_, _, rfl, rfl, rfl, rfl, (fun h => by cases h), rfl⟩, ⟨_, _, rfl, rfl, rfl, rfl, (fun h => by cases h), rfl⟩, ⟨_, _, rfl, rfl, rfl, rfl, (fun h => by cases h), rfl⟩, ⟨_, _, rfl, rfl, rfl, rfl, (fun h => by cases h), rfl⟩, ⟨_, _, rfl, rfl, rfl, rfl, (fun h => by cases h), rfl⟩, ⟨_, _, rfl, rfl, rfl, rfl, (fun h => by cases h), rfl⟩, ⟨_, _, rfl, rfl, rfl, rfl, (fun h => by cases h), rfl⟩, ⟨_, _, rfl, rfl, rfl, rfl, (fun h => by cases h), rfl⟩, ⟨_, _, rfl, rfl, rfl, rfl, (fun h => by cases h), rfl⟩, ⟨_, _, rfl, rfl, rfl, rfl, (fun h => by cases h), rfl⟩, ⟨_, _, rfl, rfl, rfl, rfl, (fun h => by cases h), rfl⟩, ⟨_, _, rfl, rfl, rfl, rfl, (fun h => by cases h), rfl⟩, ⟨_, _, rfl, rfl, rfl, rfl, (fun h => by cases h), rfl⟩, ⟨_, _, rfl, rfl, rfl, rfl, (fun h => by cases h), rfl⟩, ⟨_, _, rfl, rfl, rfl, rfl, (fun h => by cases h), rfl⟩, ⟨_, _, rfl, rfl, rfl, rfl, (fun h => by cases h), rfl⟩, ⟨_, _, rfl, rfl, rfl, rfl, (fun h => by cases h), rfl⟩, ⟨_, _, rfl, rfl, rfl, rfl, (fun h => by cases h), rfl⟩, ⟨_, _, rfl, rfl, rfl, rfl, (fun h => by cases h), rfl⟩, ⟨_, _, rfl, rfl, rfl, rfl, (fun h => by cases h), rfl⟩, ⟨_, _, rfl, rfl, rfl, rfl, (fun h => by cases h), rfl⟩, ⟨_, _, rfl, rfl, rfl, rfl, (fun h => by cases h), rfl⟩, ⟨_, _, rfl, rfl, rfl, rfl, (fun h => by cases h), rfl⟩, ⟨_, _, rfl, rfl, rfl, rfl, (fun h => by cases h), rfl⟩, ⟨_, _, rfl, rfl, rfl, rfl, (fun h => by cases h), rfl⟩, trivial⟩) (trivial) (⟨(fun h => by cases h), (fun h => by cases h), (fun h => by cases h), (fun h => by cases h), (fun h => by cases h), (fun h => by cases h), (fun h => by cases h), (fun h => by cases h), (fun h => by cases h), (fun h => by cases h), (fun h => by cases h), (fun h => by cases h), (fun h => by cases h), (fun h => by cases h), (fun h => by cases h), (fun h => by cases h), (fun h => by cases h), (fun h => by cases h), (fun h => by cases h), (fun h => by cases h), (fun h => by cases h), (fun h => by cases h), (fun h => by cases h), (fun h => by cases h), (fun h => by cases h), (fun h => by cases h), (fun h => by cases h), (fun h => by cases h), (fun h => by cases h), (fun h => by cases h), (fun h => by cases h), (fun h => by cases h), (fun h => by cases h), (fun h => by cases h), (fun h => by cases h), (fun h => by cases h), (fun h => by cases h), (fun h => by cases h), (fun h => by cases h), (fun h => by cases h), trivial⟩) rfl) ⟨_, rfl, rfl⟩ rfl ?_
        refine .q (op_move rfl) ⟨_, rfl, rfl⟩ rfl ?_
        refine .q (op_cmpI rfl rfl rfl) ⟨_, rfl, rfl⟩ rfl ?_
        refine .q (op_pick_true rfl rfl rfl) trivial rfl ?_
        refine .q (op_assign rfl) trivial rfl ?_
        refine .nil ?_
        show Ev _ _ _ _ _
        refine .ret ?_
        show RetOk _ _ _ _ _ _ _
        exact ret1v rfl (.inl rfl) rfl rfl trivial
    · first | replace hc57 := of_decide_eq_true hc57 | replace hc57 := of_decide_eq_false hc57 | replace hc57 := eq_of_beq hc57 | replace hc57 := ne_of_beq_false hc57 | simp only [bne_iff_ne, ne_eq] at hc57 | simp only [bne_eq_false_iff_eq] at hc57
      refine .seq ?_
      refine .region ?_
      refine .q (op_cmpI rfl rfl rfl) trivial rfl ?_
      refine .q (op_assign rfl) trivial rfl ?_
      refine .nil ?_
      show Ev _ _ _ _ _
      refine .cond rfl (fun hc65 => ?_) (fun hc65 => ?_)
      · first | replace hc65 := of_decide_eq_true hc65 | replace hc65 := of_decide_eq_false hc65 | replace hc65 := eq_of_beq hc65 | replace hc65 := ne_of_beq_false hc65 | simp only [bne_iff_ne, ne_eq] at hc65 | simp only [bne_eq_false_iff_eq] at hc65
        refine .drawn [[], [0], [0, 1], [0, 1, 2], [], [4], [0, 1, 2, 3, 4, 5], [0, 1, 2, 3, 4, 5, 6], [0, 1, 2, 3, 4, 5, 6, 7]] [3, 5, 8] [8] (by kernel_rfl) (by kernel_rfl) rfl ?_
        show DK _ [0, 1, 2, 3, 4, 5, 6, 7, 8] _ _ _
        refine .q rfl (op_move rfl) trivial ?_
        refine .q rfl (op_remI rfl rfl ⟨by omega, by omega⟩) trivial ?_
        refine .as (.i64 ((a % 12 : Nat) : Int)) (congrArg AV.i64 (Int.natCast_emod _ _).symm) ?_
        refine .q rfl (ap_idx_arr Tryd.underlying34 inf5.sz rfl rfl rfl (Nat.mod_lt _ (by decide))) trivial ?_
        refine .q rfl (op_load Tryd.underlying5 rfl rfl rfl rfl (by have h9 : a % 12 < 12 := Nat.mod_lt _ (by decide); first | (show a % 12 < (List.replicate 12 (0 : UInt8)).length; first | omega | (rw [hk]; exact h9) | (simp; omega)))) trivial ?_
        refine .q rfl (op_fieldAddr (m := 0) Tryd.underlying40 rfl (by kernel_rfl) rfl) trivial ?_
        refine .as (.ptr 1000 36) rfl ?_
        refine .q rfl (op_load Tryd.underlying5 rfl rfl rfl (turn_nth hk 4 rfl) (turn_lt hk 36 (by decide))) trivial ?_
        refine .q rfl (op_bin8 rfl rfl rfl) trivial ?_
        refine .q rfl (ap_idx_arr Tryd.underlying34 inf5.sz rfl rfl rfl (Nat.mod_lt _ (by decide))) trivial ?_
        refine .w rfl (op_store inf5.sz rfl rfl rfl rfl rfl (by have h9 : a % 12 < 12 := Nat.mod_lt _ (by decide); first | (show a % 12 < (List.replicate 12 (0 : UInt8)).length; first | omega | (rw [hk]; exact h9) | (simp; omega)))) trivial rfl rfl ?_
        refine .nil ?_
        show Ev _ _ _ _ _
        refine .seq ?_
        refine Ev.weak (st2 := ⟨[(2, .bool false), (4, .str (tX w (extra.take 30) by_)), (5, .ptr 1072 0), (6, .sl 1080 0 (tS w SE a by_).length 1), (7, .ptr 1088 0)], [(1072, some ⟨.aggB (tN w (List.replicate 12 (0 : UInt8)) a by_), 34, true⟩), (1080, some ⟨.aggB (tS w SE a by_), 5, true⟩), (1088, some ⟨.aggB (tK w key a by_), 22, true⟩), (21, some ⟨.aggI qsTab, e, false⟩), (2, some ⟨.agg [.err 192 (1) (offE eo (1))], errT, false⟩), (0, some ⟨.agg [.err 192 (2) (offE eo (2))], errT, false⟩), (3, some ⟨.agg [.err 192 (3) (offE eo (3))], errT, false⟩), (4, some ⟨.agg [.err 192 (4) (offE eo (4))], errT, false⟩), (1, some ⟨.agg [.err 192 (5) (offE eo (5))], errT, false⟩), (5, some ⟨.agg [.err 192 (6) (offE eo (6))], errT, false⟩), (6, some ⟨.agg [.err 192 (7) (offE eo (7))], errT, false⟩), (7, some ⟨.agg [.err 192 (8) (offE eo (8))], errT, false⟩), (8, some ⟨.agg [.err 192 (9) (offE eo (9))], errT, false⟩), (9, some ⟨.agg [.err 192 (10) (offE eo (10))], errT, false⟩), (10, some ⟨.agg [.err 192 (11) (offE eo (11))], errT, false⟩), (11, some ⟨.agg [.err 192 (12) (offE eo (12))], errT, false⟩), (12, some ⟨.agg [.err 192 (13) (offE eo (13))], errT, false⟩), (13, some ⟨.agg [.err 192 (14) (offE eo (14))], errT, false⟩), (14, some ⟨.agg [.err 192 (15) (offE eo (15))], errT, false⟩), (15, some ⟨.agg [.err 192 (16) (offE eo (16))], errT, false⟩), (16, some ⟨.agg [.err 192 (17) (offE eo (17))], errT, false⟩), (17, some ⟨.agg [.err 192 (18) (offE eo (18))], errT, false⟩), (18, some ⟨.agg [.err 192 (19) (offE eo (19))], errT, false⟩), (19, some ⟨.agg [.err 192 (20) (offE eo (20))], errT, false⟩), (401, some ⟨.agg [], errT, false⟩), (402, some ⟨.agg [], errT, false⟩), (403, some ⟨.agg [], errT, false⟩), (404, some ⟨.agg [], errT, false⟩), (405, some ⟨.agg [], errT, false⟩), (406, some ⟨.agg [], errT, false⟩), (407, some ⟨.agg [], errT, false⟩), (408, some ⟨.agg [], errT, false⟩), (409, some ⟨.agg [], errT, false⟩), (410, some ⟨.agg [], errT, false⟩), (411, some ⟨.agg [], errT, false⟩), (412, some ⟨.agg [], errT, false⟩), (413, some ⟨.agg [], errT, false⟩), (414, some ⟨.agg [], errT, false⟩), (415, some ⟨.agg [], errT, false⟩), (416, some ⟨.agg [], errT, false⟩), (417, some ⟨.agg [], errT, false⟩), (418, some ⟨.agg [], errT, false⟩), (419, some ⟨.agg [], errT, false⟩), (420, some ⟨.agg [], errT, false⟩)], 1096⟩) ?_ ?_
        · exact StLe.mk [(1072, 1072), (1080, 1080), (1088, 1088)] rfl rfl ⟨⟨_, rfl, by rfl, rfl⟩, ⟨_, rfl, by (first | exact congrArg AV.str (tX_0 hc44) | exact congrArg AV.str (tX_y hc57) | exact congrArg AV.str (tX_n hc57)), rfl⟩, ⟨_, rfl, by rfl, rfl⟩, ⟨_, rfl, by (exact congrArg (fun n => AV.sl 1080 0 n 1) (length_tS _ _ _ _).symm), rfl⟩, ⟨_, rfl, by rfl, rfl⟩, trivial⟩ ⟨⟨_, _, rfl, rfl, by (first | exact congrArg AV.aggB (tN_0 hc44) | exact congrArg AV.aggB (tN_1 hc57) | exact congrArg AV.aggB (tN_y hc65) | exact congrArg AV.aggB (tN_n hc65)), rfl, id, rfl⟩, ⟨_, _, rfl, rfl, by (first | exact congrArg AV.aggB (tS_y hc44) | exact congrArg AV.aggB (tS_n hc44)), rfl, id, rfl⟩, ⟨_, _, rfl, rfl, by (first | exact congrArg AV.aggB (tK_0 hc44) | exact congrArg AV.aggB (tK_1 hc44 hc57) | exact congrArg AV.aggB (tK_2 hc44 hc57 hc65) | exact congrArg AV.aggB (tK_y hc44 hc57 hc65)), rfl, id, rfl⟩, ⟨_, _, rfl, rfl, rfl, rfl, id, rfl⟩, ⟨_, _, rfl, rfl, rfl, rfl, id, rfl⟩, ⟨_, _, rfl, rfl, rfl, rfl, id, rfl⟩, ⟨_, _, rfl, rfl, rfl, rfl, id, rfl⟩, ⟨_, _, rfl, rfl, rfl, rfl, id, rfl⟩, ⟨_, _, rfl, rfl, rfl, rfl, id, rfl⟩, ⟨_, _, rfl, rfl, rfl, rfl, id, rfl⟩, ⟨_, _, rfl, rfl, rfl, rfl, id, rfl⟩, ⟨_, _, rfl, rfl, rfl, rfl, id, rfl⟩, ⟨_, _, rfl, rfl, rfl, rfl, id, rfl⟩, ⟨_, _, rfl, rfl, rfl, rfl, id, rfl⟩, ⟨_, _, rfl, rfl, rfl, rfl, id, rfl⟩, ⟨_, _, rfl, rfl, rfl, rfl, id, rfl⟩, ⟨_, _, rfl, rfl, rfl, rfl, id, rfl⟩, ⟨_, _, rfl, rfl, rfl, rfl, id, rfl⟩, ⟨_, _, rfl, rfl, rfl, rfl, id, rfl⟩, ⟨_, _, rfl, rfl, rfl, rfl, id, rfl⟩, ⟨_, _, rfl, rfl, rfl, rfl, id, rfl⟩, ⟨_, _, rfl, rfl, rfl, rfl, id, rfl⟩, ⟨_, _, rfl, rfl, rfl, rfl, id, rfl⟩, ⟨_, _, rfl, rfl, rfl, rfl, id, rfl⟩, ⟨_, _, rfl, rfl, rfl, rfl, id, rfl⟩, ⟨_, _, rfl, rfl, rfl, rfl, id, rfl⟩, ⟨_, _, rfl, rfl, rfl, rfl, id, rfl⟩, ⟨_, _, rfl, rfl, rfl, rfl, id, rfl⟩, ⟨_, _, rfl, rfl, rfl, rfl, id, rfl⟩, ⟨_, _, rfl, rfl, rfl, rfl, id, rfl⟩, ⟨_, _, rfl, rfl, rfl, rfl, id, rfl⟩, ⟨_, _, rfl, rfl, rfl, rfl, id, rfl⟩, ⟨_, _, rfl, rfl, rfl, rfl, id, rfl⟩, ⟨_, _, rfl, rfl, rfl, rfl, id, rfl⟩, ⟨_, _, rfl, rfl, rfl, rfl, id, rfl⟩, ⟨_, _, rfl, rfl, rfl, rfl, id, rfl⟩, ⟨_, _, rfl, rfl, rfl, rfl, id, rfl⟩, ⟨_, _, rfl, rfl, rfl, rfl, id, rfl⟩, ⟨_, _, rfl, rfl, rfl, rfl, id, rfl⟩, ⟨_, _, rfl, rfl, rfl, rfl, id, rfl⟩, ⟨_, _, rfl, rfl, rfl, rfl, id, rfl⟩, ⟨_, _, rfl, rfl, rfl, rfl, id, rfl⟩, ⟨_, _, rfl, rfl, rfl, rfl, id, rfl⟩, ⟨_, _, rfl, rfl, rfl, rfl, id, rfl⟩, trivial⟩
        refine .region ?_
        refine .q (op_loadRow Tryd.underlying22 rfl sz22 rfl rfl rfl (by rw [show (AV.aggB (tK w key a by_)).len = (tK w key a by_).length from rfl, length_tK]; exact hk)) trivial rfl ?_
        refine .q (op_loadRow Tryd.underlying34 rfl sz34 rfl rfl rfl (by rw [show (AV.aggB (tN w (List.replicate 12 (0 : UInt8)) a by_)).len = (tN w (List.replicate 12 (0 : UInt8)) a by_).length from rfl, length_tN]; rfl)) trivial rfl ?_
        refine .q (op_move rfl) trivial rfl ?_
        refine .q (op_bytes_str Tryd.underlying23 Tryd.underlying5 Tryd.underlying9 rfl rfl rfl (by omega)) trivial rfl ?_
        refine .as (.str (tS w SE a by_)) (by rw [List.drop_zero, List.take_of_length_le (Nat.le_refl _)]) ?_
        refine .q (op_move rfl) trivial rfl ?_
        refine dite ((tS w SE a by_).drop ((tS w SE a by_).length - 16) = (tagL (tK w key a by_) (tN w (List.replicate 12 (0 : UInt8)) a by_) ((tS w SE a by_).take ((tS w SE a by_).length - 16)) (tX w (extra.take 30) by_))) (fun hTag => ?_) (fun hTag => ?_)
        · refine .q (op_call (U := []) [] [] (popen_ok e (tK w key a by_) (tN w (List.replicate 12 (0 : UInt8)) a by_) (tS w SE a by_) (tX w (extra.take 30) by_) (by rw [length_tK]; exact hk) (by rw [length_tN]; rfl) (by rw [length_tS]; omega) (by have h9 := length_tX w (extra.take 30) by_; rw [List.length_take] at h9; omega) (by rw [length_tS]; omega) hTag eo) Tryd.func13 (by kernel_rfl) rfl rfl rfl (⟨⟨_, rfl, rfl, rfl⟩, ⟨_, rfl, rfl, rfl⟩, ⟨_, rfl, rfl, rfl⟩, ⟨_, rfl, rfl, rfl⟩, trivial⟩) (⟨⟨_, _, rfl, rfl, rfl, rfl, (fun h => by cases h), rfl⟩, trivial⟩) (trivial) (⟨(fun h => by cases h), trivial⟩) rfl) trivial rfl ?_
          refine .q (op_move rfl) trivial rfl ?_
          refine .q (op_extract rfl rfl) trivial rfl ?_
          refine .q (op_extract rfl rfl) trivial rfl ?_
          refine .q (op_assign rfl) trivial rfl ?_
          refine .q (op_assign rfl) trivial rfl ?_
          refine .nil ?_
          show Ev _ _ _ _ _
          refine .seq ?_
          refine .drawn [[], [0], [], [2], [], [4], [], [0, 1, 2, 3, 4, 5, 6], [0, 1, 2, 3, 4, 5, 6, 7], [0, 1, 2, 3, 4, 5, 6, 7, 8], [0, 1, 2, 3, 4, 5, 6, 7, 8], [0, 1, 2, 3, 4, 5, 6, 7, 8, 9], [0, 1, 2, 3, 4, 5, 6, 7, 8, 9, 10, 11]] [0, 1, 2, 3, 5, 7] [] (by kernel_rfl) (by kernel_rfl) rfl ?_
          show DK _ [0, 1, 2, 3, 4, 5, 6, 7, 8, 9, 10, 11, 12] _ _ _
          refine .q rfl (ap_slice_arr_hi Tryd.underlying22 inf5.sz rfl rfl (by first | (rw [show (AV.aggB (tK w key a by_)).len = (tK w key a by_).length from rfl, length_tK, hk]; omega) | omega) (by decide) rfl (by first | (rw [show (AV.aggB (tK w key a by_)).len = (tK w key a by_).length from rfl, length_tK, hk]; omega) | omega)) trivial ?_
          refine .q rfl (op_bytes_str Tryd.underlying23 Tryd.underlying5 Tryd.underlying9 rfl rfl rfl (by rw [length_tK, hk]; omega)) trivial ?_
          refine .as (.str (tK w key a by_)) (by rw [List.drop_zero, List.take_of_length_le (by rw [length_tK, hk]; omega)]) ?_
          refine .q rfl (ap_slice_arr_hi Tryd.underlying34 inf5.sz rfl rfl (by first | (rw [show (AV.aggB (tN w (List.replicate 12 (0 : UInt8)) a by_)).len = (tN w (List.replicate 12 (0 : UInt8)) a by_).length from rfl, length_tN]; simp; done) | omega) (by decide) rfl (by first | (rw [show (AV.aggB (tN w (List.replicate 12 (0 : UInt8)) a by_)).len = (tN w (List.replicate 12 (0 : UInt8)) a by_).length from rfl, length_tN]; simp; done) | omega)) trivial ?_
          refine .q rfl (op_bytes_str Tryd.underlying23 Tryd.underlying5 Tryd.underlying9 rfl rfl rfl (by rw [length_tN]; simp)) trivial ?_
          refine .as (.str (tN w (List.replicate 12 (0 : UInt8)) a by_)) (by rw [List.drop_zero, List.take_of_length_le (by rw [length_tN]; simp)]) ?_
          refine .q rfl (op_move rfl) trivial ?_
          refine .q rfl (op_bytes_str Tryd.underlying23 Tryd.underlying5 Tryd.underlying9 rfl rfl rfl (by omega)) trivial ?_
          refine .as (.str (tS w SE a by_)) (by rw [List.drop_zero, List.take_of_length_le (Nat.le_refl _)]) ?_
          refine .q rfl (op_move rfl) trivial ?_
          refine .q rfl (op_call (U := []) [] [] (ropen_ok (tK w key a by_) (tN w (List.replicate 12 (0 : UInt8)) a by_) (tS w SE a by_) (tX w (extra.take 30) by_) (by rw [length_tK]; exact hk) (by rw [length_tN]; rfl) (by rw [length_tS]; omega) (by have h9 := length_tX w (extra.take 30) by_; rw [List.length_take] at h9; omega) (by rw [length_tS]; omega) hTag) Tryd.func14 (by kernel_rfl) rfl rfl rfl (⟨⟨_, rfl, rfl, rfl⟩, ⟨_, rfl, rfl, rfl⟩, ⟨_, rfl, rfl, rfl⟩, ⟨_, rfl, rfl, rfl⟩, trivial⟩) (trivial) (trivial) (trivial) rfl) trivial ?_
          refine .q rfl (op_move rfl) trivial ?_
          refine .q rfl (op_extract rfl rfl) trivial ?_
          refine .q rfl (op_extract rfl rfl) trivial ?_
          refine .q rfl (op_assign rfl) trivial ?_
          refine .q rfl (op_assign rfl) trivial ?_
          refine .nil ?_
          show Ev _ _ _ _ _
          refine .seq ?_
          refine .region ?_
          refine .q (op_move rfl) trivial rfl ?_
          refine .q (op_move rfl) trivial rfl ?_
          refine .q (op_eqS rfl rfl rfl) trivial rfl ?_
          refine .q (op_move rfl) trivial rfl ?_
          refine .know (b' := true) (beq_self_eq_true _) ?_
          refine .q (op_move rfl) ⟨_, rfl, rfl⟩ rfl ?_
          refine .q (op_call (U := []) [] [] (code_0 eo hd) Tryd.func15 (by kernel_rfl) rfl rfl rfl (⟨⟨_, rfl, rfl, rfl⟩, trivial⟩) (⟨⟨_, _, rfl, rfl, rfl, rfl, (fun h => by cases h), rfl⟩, ⟨_, _, rfl, rfl, rfl, rfl, (fun h => by cases h), rfl⟩, ⟨_, _, rfl, rfl, rfl, rfl, (fun h => by cases h), rfl⟩, ⟨_, _, rfl, rfl, rfl, rfl, (fun h => by cases h), rfl⟩, ⟨_, _, rfl, rfl, rfl, rfl, (fun h => by cases h), rfl⟩, ⟨_, _, rfl, rfl, rfl, rfl, (fun h => by cases h), rfl⟩, ⟨_, _, rfl, rfl, rfl, rfl, (fun h => by cases h), rfl⟩, ⟨_, _, rfl, rfl, rfl, rfl, (fun h => by cases h), rfl⟩, ⟨_, _, rfl, rfl, rfl, rfl, (fun h => by cases h), rfl⟩, ⟨_, _, rfl, rfl, rfl, rfl, (fun h => by cases h), rfl⟩, ⟨_, _, rfl, rfl, rfl, rfl, (fun h => by cases h), rfl⟩, ⟨_, _, rfl, rfl, rfl, rfl, (fun h => by cases h), rfl⟩, ⟨_, _, rfl, rfl, rfl, rfl, (fun h => by cases h), rfl⟩, ⟨_, _, rfl, rfl, rfl, rfl, (fun h => by cases h), rfl⟩, ⟨_, _, rfl, rfl, rfl, rfl, (fun h => by cases h), rfl⟩, ⟨_, _, rfl, rfl, rfl, rfl, (fun h => by cases h), rfl⟩, ⟨_, _, rfl, rfl, rfl, rfl, (fun h => by cases h), rfl⟩, ⟨_, _, rfl, rfl, rfl, rfl, (fun h => by cases h), rfl⟩, ⟨_, _, rfl, rfl, rfl, rfl, (fun h => by cases h), rfl⟩, ⟨_, _, rfl, rfl, rfl, rfl, (fun h => by cases h), rfl⟩, ⟨_, _, rfl, rfl, rfl, rfl, (fun h => by cases h), rfl⟩, ⟨_, _, rfl, rfl, rfl, rfl, (fun h => by cases h), rfl⟩, ⟨_, _, rfl, rfl, rfl, rfl, (fun h => by cases h), rfl⟩, ⟨_, _, rfl, rfl, rfl, rfl, (fun h => by cases h), rfl⟩, ⟨_, _, rfl, rfl, rfl, rfl, (fun h => by cases h), rfl⟩, ⟨_, _, rfl, rfl, rfl, rfl, (fun h => by cases h), rfl⟩, ⟨_, _, rfl, rfl, rfl, rfl, (fun h => by cases h), rfl⟩, ⟨_, _, rfl, rfl, rfl, rfl, (fun h => by cases h), rfl⟩, ⟨_, _, rfl, rfl, rfl, rfl, (fun h => by cases h), rfl⟩, ⟨_, _, rfl, rfl, rfl, rfl, (fun h => by cases h), rfl⟩, ⟨_, _, rfl, rfl, rfl, rfl, (fun h => by cases h), rfl⟩, ⟨_, _, rfl, rfl, rfl, rfl, (fun h => by cases h), rfl⟩, ⟨_, _, rfl, rfl, rfl, rfl, (fun h => by cases h), rfl⟩, ⟨_, _, rfl, rfl, rfl, rfl, (fun h => by cases h), rfl⟩, ⟨_, _, rfl, rfl, rfl, rfl, (fun h => by cases h), rfl⟩, ⟨_, _, rfl, rfl, rfl, rfl, (fun h => by cases h), rfl⟩, ⟨_, _, rfl, rfl, rfl, rfl, (fun h => by cases h), rfl⟩, ⟨_, _, rfl, rfl, rfl, rfl, (fun h => by cases h), rfl⟩, ⟨_, _, rfl, rfl, rfl, rfl, (fun h => by cases h), rfl⟩, ⟨_, _, rfl, rfl, rfl, rfl, (fun h => by cases h), rfl⟩, trivial⟩) (trivial) (⟨(fun h => by cases h), (fun h => by cases h), (fun h => by cases h), (fun h => by cases h), (fun h => by cases h), (fun h => by cases h), (fun h => by cases h), (fun h => by cases h), (fun h => by cases h), (fun h => by cases h), (fun h => by cases h), (fun h => by cases h), (fun h => by cases h), (fun h => by cases h), (fun h => by cases h), (fun h => by cases h), (fun h => by cases h), (fun h => by cases h), (fun h => by cases h), (fun h => by cases h), (fun h => by cases h), (fun h => by cases h), (fun h => by cases h), (fun h => by cases h), (fun h => by cases h), (fun h => by cases h), (fun h => by cases h), (fun h => by cases h), (fun h => by cases h), (fun h => by cases h), (fun h => by cases h), (fun h => by cases h), (fun h => by cases h), (fun h => by cases h), (fun h => by cases h), (fun h => by cases h), (fun h => by cases h), (fun h => by cases h), (fun h => by cases h), (fun h => by cases h), trivial⟩) rfl) ⟨_, rfl, rfl⟩ rfl ?_
          refine .q (op_move rfl) ⟨_, rfl, rfl⟩ rfl ?_
          refine .q (op_cmpI rfl rfl rfl) ⟨_, rfl, rfl⟩ rfl ?_
          refine .q (op_pick_true rfl rfl rfl) trivial rfl ?_
          refine .q (op_assign rfl) trivial rfl ?_
          refine .nil ?_
          show Ev _ _ _ _ _
          refine .ret ?_
          show RetOk _ _ _ _ _ _ _
          exact ret1v rfl (.inl rfl) rfl rfl trivial
        · refine .q (op_call (U := []) [] [] (popen_mac e (tK w key a by_) (tN w (List.replicate 12 (0 : UInt8)) a by_) (tS w SE a by_) (tX w (extra.take 30) by_) (by rw [length_tK]; exact hk) (by rw [length_tN]; rfl) (by rw [length_tS]; omega) (by have h9 := length_tX w (extra.take 30) by_; rw [List.length_take] at h9; omega) (by rw [length_tS]; omega) hTag eo) Tryd.func13 (by kernel_rfl) rfl rfl rfl (⟨⟨_, rfl, rfl, rfl⟩, ⟨_, rfl, rfl, rfl⟩, ⟨_, rfl, rfl, rfl⟩, ⟨_, rfl, rfl, rfl⟩, trivial⟩) (⟨⟨_, _, rfl, rfl, rfl, rfl, (fun h => by cases h), rfl⟩, ⟨_, _, rfl, rfl, rfl, rfl, (fun h => by cases h), rfl⟩, trivial⟩) (trivial) (⟨(fun h => by cases h), (fun h => by cases h), trivial⟩) rfl) trivial rfl ?_
          refine .q (op_move rfl) trivial rfl ?_
          refine .q (op_extract rfl rfl) trivial rfl ?_
          refine .q (op_extract rfl rfl) trivial rfl ?_
          refine .q (op_assign rfl) trivial rfl ?_
          refine .q (op_assign rfl) trivial rfl ?_
          refine .nil ?_
          show Ev _ _ _ _ _
          refine .seq ?_
          refine .drawn [[], [0], [], [2], [], [4], [], [0, 1, 2, 3, 4, 5, 6], [0, 1, 2, 3, 4, 5, 6, 7], [0, 1, 2, 3, 4, 5, 6, 7, 8], [0, 1, 2, 3, 4, 5, 6, 7, 8], [0, 1, 2, 3, 4, 5, 6, 7, 8, 9], [0, 1, 2, 3, 4, 5, 6, 7, 8, 9, 10, 11]] [0, 1, 2, 3, 5, 7] [] (by kernel_rfl) (by kernel_rfl) rfl ?_
          show DK _ [0, 1, 2, 3, 4, 5, 6, 7, 8, 9, 10, 11, 12] _ _ _
          refine .q rfl (ap_slice_arr_hi Tryd.underlying22 inf5.sz rfl rfl (by first | (rw [show (AV.aggB (tK w key a by_)).len = (tK w key a by_).length from rfl, length_tK, hk]; omega) | omega) (by decide) rfl (by first | (rw [show (AV.aggB (tK w key a by_)).len = (tK w key a by_).length from rfl, length_tK, hk]; omega) | omega)) trivial ?_
          refine .q rfl (op_bytes_str Tryd.underlying23 Tryd.underlying5 Tryd.underlying9 rfl rfl rfl (by rw [length_tK, hk]; omega)) trivial ?_
          refine .as (.str (tK w key a by_)) (by rw [List.drop_zero, List.take_of_length_le (by rw [length_tK, hk]; omega)]) ?_
          refine .q rfl (ap_slice_arr_hi Tryd.underlying34 inf5.sz rfl rfl (by first | (rw [show (AV.aggB (tN w (List.replicate 12 (0 : UInt8)) a by_)).len = (tN w (List.replicate 12 (0 : UInt8)) a by_).length from rfl, length_tN]; simp; done) | omega) (by decide) rfl (by first | (rw [show (AV.aggB (tN w (List.replicate 12 (0 : UInt8)) a by_)).len = (tN w (List.replicate 12 (0 : UInt8)) a by_).length from rfl, length_tN]; simp; done) | omega)) trivial ?_
          refine .q rfl (op_bytes_str Tryd.underlying23 Tryd.underlying5 Tryd.underlying9 rfl rfl rfl (by rw [length_tN]; simp)) trivial ?_
          refine .as (.str (tN w (List.replicate 12 (0 : UInt8)) a by_)) (by rw [List.drop_zero, List.take_of_length_le (by rw [length_tN]; simp)]) ?_
          refine .q rfl (op_move rfl) trivial ?_
          refine .q rfl (op_bytes_str Tryd.underlying23 Tryd.underlying5 Tryd.underlying9 rfl rfl rfl (by omega)) trivial ?_
          refine .as (.str (tS w SE a by_)) (by rw [List.drop_zero, List.take_of_length_le (Nat.le_refl _)]) ?_
          refine .q rfl (op_move rfl) trivial ?_
          refine .q rfl (op_call (U := []) [] [] (ropen_mac (tK w key a by_) (tN w (List.replicate 12 (0 : UInt8)) a by_) (tS w SE a by_) (tX w (extra.take 30) by_) (by rw [length_tK]; exact hk) (by rw [length_tN]; rfl) (by rw [length_tS]; omega) (by have h9 := length_tX w (extra.take 30) by_; rw [List.length_take] at h9; omega) (by rw [length_tS]; omega) hTag) Tryd.func14 (by kernel_rfl) rfl rfl rfl (⟨⟨_, rfl, rfl, rfl⟩, ⟨_, rfl, rfl, rfl⟩, ⟨_, rfl, rfl, rfl⟩, ⟨_, rfl, rfl, rfl⟩, trivial⟩) (trivial) (trivial) (trivial) rfl) trivial ?_
          refine .q rfl (op_move rfl) trivial ?_
          refine .q rfl (op_extract rfl rfl) trivial ?_
          refine .q rfl (op_extract rfl rfl) trivial ?_
          refine .q rfl (op_assign rfl) trivial ?_
          refine .q rfl (op_assign rfl) trivial ?_
          refine .nil ?_
          show Ev _ _ _ _ _
          refine .seq ?_
          refine .region ?_
          refine .q (op_move rfl) trivial rfl ?_
          refine .q (op_move rfl) trivial rfl ?_
          refine .q (op_eqS rfl rfl rfl) trivial rfl ?_
          refine .q (op_move rfl) trivial rfl ?_
          refine .know (b' := true) (beq_self_eq_true _) ?_
          refine .q (op_move rfl) ⟨_, rfl, rfl⟩ rfl ?_
          refine .q (op_call (U := []) [] [] (code_5 eo hd) Tryd.func15 (by kernel_rfl) rfl rfl rfl (⟨⟨_, rfl, rfl, rfl⟩, trivial⟩) (⟨⟨_, _, rfl, rfl, rfl, rfl, (fun h => by cases h), rfl⟩, ⟨_, _, rfl, rfl, rfl, rfl, (fun h => by cases h), rfl⟩, ⟨_, _, rfl, rfl, rfl, rfl, (fun h => by cases h), rfl⟩, ⟨_, _, rfl, rfl, rfl, rfl, (fun h => by cases h), rfl⟩, ⟨_, _, rfl, rfl, rfl, rfl, (fun h => by cases h), rfl⟩, ⟨_, _, rfl, rfl, rfl, rfl, (fun h => by cases h), rfl⟩, ⟨_, _, rfl, rfl, rfl, rfl, (fun h => by cases h), rfl⟩, ⟨_, _, rfl, rfl, rfl, rfl, (fun h => by cases h), rfl⟩, ⟨_, _, rfl, rfl, rfl, rfl, (fun h => by cases h), rfl⟩, ⟨_, _, rfl, rfl, rfl, rfl, (fun h => by cases h), rfl⟩, ⟨_, _, rfl, rfl, rfl, rfl, (fun h => by cases h), rfl⟩, ⟨_, _, rfl, rfl, rfl, rfl, (fun h => by cases h), rfl⟩, ⟨_, _, rfl, rfl, rfl, rfl, (fun h => by cases h), rfl⟩, ⟨_, _, rfl, rfl, rfl, rfl, (fun h => by cases h), rfl⟩, ⟨_, _, rfl, rfl, rfl, rfl, (fun h => by cases h), rfl⟩, ⟨_, _, rfl, rfl, rfl, rfl, (fun h => by cases h), rfl⟩, ⟨_, _, rfl, rfl, rfl, rfl, (fun h => by cases h), rfl⟩, ⟨_, _, rfl, rfl, rfl, rfl, (fun h => by cases h), rfl⟩, ⟨_, _, rfl, rfl, rfl, rfl, (fun h => by cases h), rfl⟩, ⟨_, _, rfl, rfl, rfl, rfl, (fun h => by cases h), rfl⟩, ⟨_, _, rfl, rfl, rfl, rfl, (fun h => by cases h), rfl⟩, ⟨_, _, rfl, rfl, rfl, rfl, (fun h => by cases h), rfl⟩, ⟨_, _, rfl, rfl, rfl, rfl, (fun h => by cases h), rfl⟩, ⟨_, _, rfl, rfl, rfl, rfl, (fun h => by cases h), rfl⟩, ⟨_, _, rfl, rfl, rfl, rfl, (fun h => by cases h), rfl⟩, ⟨_, _, rfl, rfl, rfl, rfl, (fun h => by cases h), rfl⟩, ⟨_, _, rfl, rfl, rfl, rfl, (fun h => by cases h), rfl⟩, ⟨_, _, rfl, rfl, rfl, rfl, (fun h => by cases h), rfl⟩, ⟨_, _, rfl, rfl, rfl, rfl, (fun h => by cases h), rfl⟩, ⟨_, _, rfl, rfl, rfl, rfl, (fun h => by cases h), rfl⟩, ⟨_, _, rfl, rfl, rfl, rfl, (fun h => by cases h), rfl⟩, ⟨_, _, rfl, rfl, rfl, rfl, (fun h => by cases h), rfl⟩, ⟨_, _, rfl, rfl, rfl, rfl, (fun h => by cases h), rfl⟩, ⟨_, _, rfl, rfl, rfl, rfl, (fun h => by cases h), rfl⟩, ⟨_, _, rfl, rfl, rfl, rfl, (fun h => by cases h), rfl⟩, ⟨_, _, rfl, rfl, rfl, rfl, (fun h => by cases h), rfl⟩, ⟨_, _, rfl, rfl, rfl, rfl, (fun h => by cases h), rfl⟩, ⟨_, _, rfl, rfl, rfl, rfl, (fun h => by cases h), rfl⟩, ⟨_, _, rfl, rfl, rfl, rfl, (fun h => by cases h), rfl⟩, ⟨_, _, rfl, rfl, rfl, rfl, (fun h => by cases h), rfl⟩, trivial⟩) (trivial) (⟨(fun h => by cases h), (fun h => by cases h), (fun h => by cases h), (fun h => by cases h), (fun h => by cases h), (fun h => by cases h), (fun h => by cases h), (fun h => by cases h), (fun h => by cases h), (fun h => by cases h), (fun h => by cases h), (fun h => by cases h), (fun h => by cases h), (fun h => by cases h), (fun h => by cases h), (fun h => by cases h), (fun h => by cases h), (fun h => by cases h), (fun h => by cases h), (fun h => by cases h), (fun h => by cases h), (fun h => by cases h), (fun h => by cases h), (fun h => by cases h), (fun h => by cases h), (fun h => by cases h), (fun h => by cases h), (fun h => by cases h), (fun h => by cases h), (fun h => by cases h), (fun h => by cases h), (fun h => by cases h), (fun h => by cases h), (fun h => by cases h), (fun h => by cases h), (fun h => by cases h), (fun h => by cases h), (fun h => by cases h), (fun h => by cases h), (fun h => by cases h), trivial⟩) rfl) ⟨_, rfl, rfl⟩ rfl ?_
          refine .q (op_move rfl) ⟨_, rfl, rfl⟩ rfl ?_
          refine .q (op_cmpI rfl rfl rfl) ⟨_, rfl, rfl⟩ rfl ?_
          refine .q (op_pick_true rfl rfl rfl) trivial rfl ?_
          refine .q (op_assign rfl) trivial rfl ?_
          refine .nil ?_
          show Ev _ _ _ _ _
          refine .ret ?_
          show RetOk _ _ _ _ _ _ _
          exact ret1v rfl (.inl rfl) rfl rfl trivial
      · first | replace hc65 := of_decide_eq_true hc65 | replace hc65 := of_decide_eq_false hc65 | replace hc65 := eq_of_beq hc65 | replace hc65 := ne_of_beq_false hc65 | simp only [bne_iff_ne, ne_eq] at hc65 | simp only [bne_eq_false_iff_eq] at hc65
        refine .drawn [[], [0], [0, 1], [0, 1, 2], [], [4], [0, 1, 2, 3, 4, 5], [0, 1, 2, 3, 4, 5, 6], [0, 1, 2, 3, 4, 5, 6, 7]] [3, 5, 8] [8] (by kernel_rfl) (by kernel_rfl) rfl ?_
        show DK _ [0, 1, 2, 3, 4, 5, 6, 7, 8] _ _ _
        refine .q rfl (op_move rfl) trivial ?_
        refine .q rfl (op_remI rfl rfl ⟨by omega, by omega⟩) trivial ?_
        refine .as (.i64 ((a % 32 : Nat) : Int)) (congrArg AV.i64 (Int.natCast_emod _ _).symm) ?_
        refine .q rfl (ap_idx_arr Tryd.underlying22 inf5.sz rfl rfl rfl (Nat.mod_lt _ (by decide))) trivial ?_
        refine .q rfl (op_load Tryd.underlying5 rfl rfl rfl rfl (by have h9 : a % 32 < 32 := Nat.mod_lt _ (by decide); first | (show a % 32 < key.length; first | omega | (rw [hk]; exact h9) | (simp; omega)))) trivial ?_
        refine .q rfl (op_fieldAddr (m := 0) Tryd.underlying40 rfl (by kernel_rfl) rfl) trivial ?_
        refine .as (.ptr 1000 36) rfl ?_
        refine .q rfl (op_load Tryd.underlying5 rfl rfl rfl (turn_nth hk 4 rfl) (turn_lt hk 36 (by decide))) trivial ?_
        refine .q rfl (op_bin8 rfl rfl rfl) trivial ?_
        refine .q rfl (ap_idx_arr Tryd.underlying22 inf5.sz rfl rfl rfl (Nat.mod_lt _ (by decide))) trivial ?_
        refine .w rfl (op_store inf5.sz rfl rfl rfl rfl rfl (by have h9 : a % 32 < 32 := Nat.mod_lt _ (by decide); first | (show a % 32 < key.length; first | omega | (rw [hk]; exact h9) | (simp; omega)))) trivial rfl rfl ?_
        refine .nil ?_
        show Ev _ _ _ _ _
        refine .seq ?_
        refine Ev.weak (st2 := ⟨[(2, .bool false), (4, .str (tX w (extra.take 30) by_)), (5, .ptr 1072 0), (6, .sl 1080 0 (tS w SE a by_).length 1), (7, .ptr 1088 0)], [(1072, some ⟨.aggB (tN w (List.replicate 12 (0 : UInt8)) a by_), 34, true⟩), (1080, some ⟨.aggB (tS w SE a by_), 5, true⟩), (1088, some ⟨.aggB (tK w key a by_), 22, true⟩), (21, some ⟨.aggI qsTab, e, false⟩), (2, some ⟨.agg [.err 192 (1) (offE eo (1))], errT, false⟩), (0, some ⟨.agg [.err 192 (2) (offE eo (2))], errT, false⟩), (3, some ⟨.agg [.err 192 (3) (offE eo (3))], errT, false⟩), (4, some ⟨.agg [.err 192 (4) (offE eo (4))], errT, false⟩), (1, some ⟨.agg [.err 192 (5) (offE eo (5))], errT, false⟩), (5, some ⟨.agg [.err 192 (6) (offE eo (6))], errT, false⟩), (6, some ⟨.agg [.err 192 (7) (offE eo (7))], errT, false⟩), (7, some ⟨.agg [.err 192 (8) (offE eo (8))], errT, false⟩), (8, some ⟨.agg [.err 192 (9) (offE eo (9))], errT, false⟩), (9, some ⟨.agg [.err 192 (10) (offE eo (10))], errT, false⟩), (10, some ⟨.agg [.err 192 (11) (offE eo (11))], errT, false⟩), (11, some ⟨.agg [.err 192 (12) (offE eo (12))], errT, false⟩), (12, some ⟨.agg [.err 192 (13) (offE eo (13))], errT, false⟩), (13, some ⟨.agg [.err 192 (14) (offE eo (14))], errT, false⟩), (14, some ⟨.agg [.err 192 (15) (offE eo (15))], errT, false⟩), (15, some ⟨.agg [.err 192 (16) (offE eo (16))], errT, false⟩), (16, some ⟨.agg [.err 192 (17) (offE eo (17))], errT, false⟩), (17, some ⟨.agg [.err 192 (18) (offE eo (18))], errT, false⟩), (18, some ⟨.agg [.err 192 (19) (offE eo (19))], errT, false⟩), (19, some ⟨.agg [.err 192 (20) (offE eo (20))], errT, false⟩), (401, some ⟨.agg [], errT, false⟩), (402, some ⟨.agg [], errT, false⟩), (403, some ⟨.agg [], errT, false⟩), (404, some ⟨.agg [], errT, false⟩), (405, some ⟨.agg [], errT, false⟩), (406, some ⟨.agg [], errT, false⟩), (407, some ⟨.agg [], errT, false⟩), (408, some ⟨.agg [], errT, false⟩), (409, some ⟨.agg [], errT, false⟩), (410, some ⟨.agg [], errT, false⟩), (411, some ⟨.agg [], errT, false⟩), (412, some ⟨.agg [], errT, false⟩), (413, some ⟨.agg [], errT, false⟩), (414, some ⟨.agg [], errT, false⟩), (415, some ⟨.agg [], errT, false⟩), (416, some ⟨.agg [], errT, false⟩), (417, some ⟨.agg [], errT, false⟩), (418, some ⟨.agg [], errT, false⟩), (419, some ⟨.agg [], errT, false⟩), (420, some ⟨.agg [], errT, false⟩)], 1096⟩) ?_ ?_
        · exact StLe.mk [(1072, 1072), (1080, 1080), (1088, 1088)] rfl rfl ⟨⟨_, rfl, by rfl, rfl⟩, ⟨_, rfl, by (first | exact congrArg AV.str (tX_0 hc44) | exact congrArg AV.str (tX_y hc57) | exact congrArg AV.str (tX_n hc57)), rfl⟩, ⟨_, rfl, by rfl, rfl⟩, ⟨_, rfl, by (exact congrArg (fun n => AV.sl 1080 0 n 1) (length_tS _ _ _ _).symm), rfl⟩, ⟨_, rfl, by rfl, rfl⟩, trivial⟩ ⟨⟨_, _, rfl, rfl, by (first | exact congrArg AV.aggB (tN_0 hc44) | exact congrArg AV.aggB (tN_1 hc57) | exact congrArg AV.aggB (tN_y hc65) | exact congrArg AV.aggB (tN_n hc65)), rfl, id, rfl⟩, ⟨_, _, rfl, rfl, by (first | exact congrArg AV.aggB (tS_y hc44) | exact congrArg AV.aggB (tS_n hc44)), rfl, id, rfl⟩, ⟨_, _, rfl, rfl, by (first | exact congrArg AV.aggB (tK_0 hc44) | exact congrArg AV.aggB (tK_1 hc44 hc57) | exact congrArg AV.aggB (tK_2 hc44 hc57 hc65) | exact congrArg AV.aggB (tK_y hc44 hc57 hc65)), rfl, id, rfl⟩, ⟨_, _, rfl, rfl, rfl, rfl, id, rfl⟩, ⟨_, _, rfl, rfl, rfl, rfl, id, rfl⟩, ⟨_, _, rfl, rfl, rfl, rfl, id, rfl⟩, ⟨_, _, rfl, rfl, rfl, rfl, id, rfl⟩, ⟨_, _, rfl, rfl, rfl, rfl, id, rfl⟩, ⟨_, _, rfl, rfl, rfl, rfl, id, rfl⟩, ⟨_, _, rfl, rfl, rfl, rfl, id, rfl⟩, ⟨_, _, rfl, rfl, rfl, rfl, id, rfl⟩, ⟨_, _, rfl, rfl, rfl, rfl, id, rfl⟩, ⟨_, _, rfl, rfl, rfl, rfl, id, rfl⟩, ⟨_, _, rfl, rfl, rfl, rfl, id, rfl⟩, ⟨_, _, rfl, rfl, rfl, rfl, id, rfl⟩, ⟨_, _, rfl, rfl, rfl, rfl, id, rfl⟩, ⟨_, _, rfl, rfl, rfl, rfl, id, rfl⟩, ⟨_, _, rfl, rfl, rfl, rfl, id, rfl⟩, ⟨_, _, rfl, rfl, rfl, rfl, id, rfl⟩, ⟨_, _, rfl, rfl, rfl, rfl, id, rfl⟩, ⟨_, _, rfl, rfl, rfl, rfl, id, rfl⟩, ⟨_, _, rfl, rfl, rfl, rfl, id, rfl⟩, ⟨_, _, rfl, rfl, rfl, rfl, id, rfl⟩, ⟨_, _, rfl, rfl, rfl, rfl, id, rfl⟩, ⟨_, _, rfl, rfl, rfl, rfl, id, rfl⟩, ⟨_, _, rfl, rfl, rfl, rfl, id, rfl⟩, ⟨_, _, rfl, rfl, rfl, rfl, id, rfl⟩, ⟨_, _, rfl, rfl, rfl, rfl, id, rfl⟩, ⟨_, _, rfl, rfl, rfl, rfl, id, rfl⟩, ⟨_, _, rfl, rfl, rfl, rfl, id, rfl⟩, ⟨_, _, rfl, rfl, rfl, rfl, id, rfl⟩, ⟨_, _, rfl, rfl, rfl, rfl, id, rfl⟩, ⟨_, _, rfl, rfl, rfl, rfl, id, rfl⟩, ⟨_, _, rfl, rfl, rfl, rfl, id, rfl⟩, ⟨_, _, rfl, rfl, rfl, rfl, id, rfl⟩, ⟨_, _, rfl, rfl, rfl, rfl, id, rfl⟩, ⟨_, _, rfl, rfl, rfl, rfl, id, rfl⟩, ⟨_, _, rfl, rfl, rfl, rfl, id, rfl⟩, ⟨_, _, rfl, rfl, rfl, rfl, id, rfl⟩, ⟨_, _, rfl, rfl, rfl, rfl, id, rfl⟩, ⟨_, _, rfl, rfl, rfl, rfl, id, rfl⟩, ⟨_, _, rfl, rfl, rfl, rfl, id, rfl⟩, ⟨_, _, rfl, rfl, rfl, rfl, id, rfl⟩, ⟨_, _, rfl, rfl, rfl, rfl, id, rfl⟩, trivial⟩
        refine .region ?_
        refine .q (op_loadRow Tryd.underlying22 rfl sz22 rfl rfl rfl (by rw [show (AV.aggB (tK w key a by_)).len = (tK w key a by_).length from rfl, length_tK]; exact hk)) trivial rfl ?_
        refine .q (op_loadRow Tryd.underlying34 rfl sz34 rfl rfl rfl (by rw [show (AV.aggB (tN w (List.replicate 12 (0 : UInt8)) a by_)).len = (tN w (List.replicate 12 (0 : UInt8)) a by_).length from rfl, length_tN]; rfl)) trivial rfl ?_
        refine .q (op_move rfl) trivial rfl ?_
        refine .q (op_bytes_str Tryd.underlying23 Tryd.underlying5 Tryd.underlying9 rfl rfl rfl (by omega)) trivial rfl ?_
        refine .as (.str (tS w SE a by_)) (by rw [List.drop_zero, List.take_of_length_le (Nat.le_refl _)]) ?_
        refine .q (op_move rfl) trivial rfl ?_
        refine dite ((tS w SE a by_).drop ((tS w SE a by_).length - 16) = (tagL (tK w key a by_) (tN w (List.replicate 12 (0 : UInt8)) a by_) ((tS w SE a by_).take ((tS w SE a by_).length - 16)) (tX w (extra.take 30) by_))) (fun hTag => ?_) (fun hTag => ?_)
        · refine .q (op_call (U := []) [] [] (popen_ok e (tK w key a by_) (tN w (List.replicate 12 (0 : UInt8)) a by_) (tS w SE a by_) (tX w (extra.take 30) by_) (by rw [length_tK]; exact hk) (by rw [length_tN]; rfl) (by rw [length_tS]; omega) (by have h9 := length_tX w (extra.take 30) by_; rw [List.length_take] at h9; omega) (by rw [length_tS]; omega) hTag eo) Tryd.func13 (by kernel_rfl) rfl rfl rfl (⟨⟨_, rfl, rfl, rfl⟩, ⟨_, rfl, rfl, rfl⟩, ⟨_, rfl, rfl, rfl⟩, ⟨_, rfl, rfl, rfl⟩, trivial⟩) (⟨⟨_, _, rfl, rfl, rfl, rfl, (fun h => by cases h), rfl⟩, trivial⟩) (trivial) (⟨(fun h => by cases h), trivial⟩) rfl) trivial rfl ?_
          refine .q (op_move rfl) trivial rfl ?_
          refine .q (op_extract rfl rfl) trivial rfl ?_
          refine .q (op_extract rfl rfl) trivial rfl ?_
          refine .q (op_assign rfl) trivial rfl ?_
          refine .q (op_assign rfl) trivial rfl ?_
          refine .nil ?_
          show Ev _ _ _ _ _
          refine .seq ?_
          refine .drawn [[], [0], [], [2], [], [4], [], [0, 1, 2, 3, 4, 5, 6], [0, 1, 2, 3, 4, 5, 6, 7], [0, 1, 2, 3, 4, 5, 6, 7, 8], [0, 1, 2, 3, 4, 5, 6, 7, 8], [0, 1, 2, 3, 4, 5, 6, 7, 8, 9], [0, 1, 2, 3, 4, 5, 6, 7, 8, 9, 10, 11]] [0, 1, 2, 3, 5, 7] [] (by kernel_rfl) (by kernel_rfl) rfl ?_
          show DK _ [0, 1, 2, 3, 4, 5, 6, 7, 8, 9, 10, 11, 12] _ _ _
          refine .q rfl (ap_slice_arr_hi Tryd.underlying22 inf5.sz rfl rfl (by first | (rw [show (AV.aggB (tK w key a by_)).len = (tK w key a by_).length from rfl, length_tK, hk]; omega) | omega) (by decide) rfl (by first | (rw [show (AV.aggB (tK w key a by_)).len = (tK w key a by_).length from rfl, length_tK, hk]; omega) | omega)) trivial ?_
          refine .q rfl (op_bytes_str Tryd.underlying23 Tryd.underlying5 Tryd.underlying9 rfl rfl rfl (by rw [length_tK, hk]; omega)) trivial ?_
          refine .as (.str (tK w key a by_)) (by rw [List.drop_zero, List.take_of_length_le (by rw [length_tK, hk]; omega)]) ?_
          refine .q rfl (ap_slice_arr_hi Tryd.underlying34 inf5.sz rfl rfl (by first | (rw [show (AV.aggB (tN w (List.replicate 12 (0 : UInt8)) a by_)).len = (tN w (List.replicate 12 (0 : UInt8)) a by_).length from rfl, length_tN]; simp; done) | omega) (by decide) rfl (by first | (rw [show (AV.aggB (tN w (List.replicate 12 (0 : UInt8)) a by_)).len = (tN w (List.replicate 12 (0 : UInt8)) a by_).length from rfl, length_tN]; simp; done) | omega)) trivial ?_
          refine .q rfl (op_bytes_str Tryd.underlying23 Tryd.underlying5 Tryd.underlying9 rfl rfl rfl (by rw [length_tN]; simp)) trivial ?_
          refine .as (.str (tN w (List.replicate 12 (0 : UInt8)) a by_)) (by rw [List.drop_zero, List.take_of_length_le (by rw [length_tN]; simp)]) ?_
          refine .q rfl (op_move rfl) trivial ?_
          refine .q rfl (op_bytes_str Tryd.underlying23 Tryd.underlying5 Tryd.underlying9 rfl rfl rfl (by omega)) trivial ?_
          refine .as (.str (tS w SE a by_)) (by rw [List.drop_zero, List.take_of_length_le (Nat.le_refl _)]) ?_
          refine .q rfl (op_move rfl) trivial ?_
          refine .q rfl (op_call (U := []) [] [] (ropen_ok (tK w key a by_) (tN w (List.replicate 12 (0 : UInt8)) a by_) (tS w SE a by_) (tX w (extra.take 30) by_) (by rw [length_tK]; exact hk) (by rw [length_tN]; rfl) (by rw [length_tS]; omega) (by have h9 := length_tX w (extra.take 30) by_; rw [List.length_take] at h9; omega) (by rw [length_tS]; omega) hTag) Tryd.func14 (by kernel_rfl) rfl rfl rfl (⟨⟨_, rfl, rfl, rfl⟩, ⟨_, rfl, rfl, rfl⟩, ⟨_, rfl, rfl, rfl⟩, ⟨_, rfl, rfl, rfl⟩, trivial⟩) (trivial) (trivial) (trivial) rfl) trivial ?_
          refine .q rfl (op_move rfl) trivial ?_
          refine .q rfl (op_extract rfl rfl) trivial ?_
          refine .q rfl (op_extract rfl rfl) trivial ?_
          refine .q rfl (op_assign rfl) trivial ?_
          refine .q rfl (op_assign rfl) trivial ?_
          refine .nil ?_
          show Ev _ _ _ _ _
          refine .seq ?_
          refine .region ?_
          refine .q (op_move rfl) trivial rfl ?_
          refine .q (op_move rfl) trivial rfl ?_
          refine .q (op_eqS rfl rfl rfl) trivial rfl ?_
          refine .q (op_move rfl) trivial rfl ?_
          refine .know (b' := true) (beq_self_eq_true _) ?_
          refine .q (op_move rfl) ⟨_, rfl, rfl⟩ rfl ?_
          refine .q (op_call (U := []) [] [] (code_0 eo hd) Tryd.func15 (by kernel_rfl) rfl rfl rfl (⟨⟨_, rfl, rfl, rfl⟩, trivial⟩) (⟨⟨_, _, rfl, rfl, rfl, rfl, (fun h => by cases h), rfl⟩, ⟨_, _, rfl, rfl, rfl, rfl, (fun h => by cases h), rfl⟩, ⟨_, _, rfl, rfl, rfl, rfl, (fun h => by cases h), rfl⟩, ⟨_, _, rfl, rfl, rfl, rfl, (fun h => by cases h), rfl⟩, ⟨_, _, rfl, rfl, rfl, rfl, (fun h => by cases h), rfl⟩, ⟨_, _, rfl, rfl, rfl, rfl, (fun h => by cases h), rfl⟩, ⟨_, _, rfl, rfl, rfl, rfl, (fun h => by cases h), rfl⟩, ⟨_, _, rfl, rfl, rfl, rfl, (fun h => by cases h), rfl⟩, ⟨_, _, rfl, rfl, rfl, rfl, (fun h => by cases h), rfl⟩, ⟨_, _, rfl, rfl, rfl, rfl, (fun h => by cases h), rfl⟩, ⟨_, _, rfl, rfl, rfl, rfl, (fun h => by cases h), rfl⟩, ⟨_, _, rfl, rfl, rfl, rfl, (fun h => by cases h), rfl⟩, ⟨_, _, rfl, rfl, rfl, rfl, (fun h => by cases h), rfl⟩, ⟨_, _, rfl, rfl, rfl, rfl, (fun h => by cases h), rfl⟩, ⟨_, _, rfl, rfl, rfl, rfl, (fun h => by cases h), rfl⟩, ⟨_, _, rfl, rfl, rfl, rfl, (fun h => by cases h), rfl⟩, ⟨_, _, rfl, rfl, rfl, rfl, (fun h => by cases h), rfl⟩, ⟨_, _, rfl, rfl, rfl, rfl, (fun h => by cases h), rfl⟩, ⟨_, _, rfl, rfl, rfl, rfl, (fun h => by cases h), rfl⟩, ⟨_, _, rfl, rfl, rfl, rfl, (fun h => by cases h), rfl⟩, ⟨_, _, rfl, rfl, rfl, rfl, (fun h => by cases h), rfl⟩, ⟨_, _, rfl, rfl, rfl, rfl, (fun h => by cases h), rfl⟩, ⟨_, _, rfl, rfl, rfl, rfl, (fun h => by cases h), rfl⟩, ⟨_, _, rfl, rfl, rfl, rfl, (fun h => by cases h), rfl⟩, ⟨_, _, rfl, rfl, rfl, rfl, (fun h => by cases h), rfl⟩, ⟨_, _, rfl, rfl, rfl, rfl, (fun h => by cases h), rfl⟩, ⟨_, _, rfl, rfl, rfl, rfl, (fun h => by cases h), rfl⟩, ⟨_, _, rfl, rfl, rfl, rfl, (fun h => by cases h), rfl⟩, ⟨_, _, rfl, rfl, rfl, rfl, (fun h => by cases h), rfl⟩, ⟨_, _, rfl, rfl, rfl, rfl, (fun h => by cases h), rfl⟩, ⟨_, _, rfl, rfl, rfl, rfl, (fun h => by cases h), rfl⟩, ⟨_, _, rfl, rfl, rfl, rfl, (fun h => by cases h), rfl⟩, ⟨_, _, rfl, rfl, rfl, rfl, (fun h => by cases h), rfl⟩, ⟨_, _, rfl, rfl, rfl, rfl, (fun h => by cases h), rfl⟩, ⟨_, _, rfl, rfl, rfl, rfl, (fun h => by cases h), rfl⟩, ⟨_, _, rfl, rfl, rfl, rfl, (fun h => by cases h), rfl⟩, ⟨_, _, rfl, rfl, rfl, rfl, (fun h => by cases h), rfl⟩, ⟨_, _, rfl, rfl, rfl, rfl, (fun h => by cases h), rfl⟩, ⟨_, _, rfl, rfl, rfl, rfl, (fun h => by cases h), rfl⟩, ⟨_, _, rfl, rfl, rfl, rfl, (fun h => by cases h), rfl⟩, trivial⟩) (trivial) (⟨(fun h => by cases h), (fun h => by cases h), (fun h => by cases h), (fun h => by cases h), (fun h => by cases h), (fun h => by cases h), (fun h => by cases h), (fun h => by cases h), (fun h => by cases h), (fun h => by cases h), (fun h => by cases h), (fun h => by cases h), (fun h => by cases h), (fun h => by cases h), (fun h => by cases h), (fun h => by cases h), (fun h => by cases h), (fun h => by cases h), (fun h => by cases h), (fun h => by cases h), (fun h => by cases h), (fun h => by cases h), (fun h => by cases h), (fun h => by cases h), (fun h => by cases h), (fun h => by cases h), (fun h => by cases h), (fun h => by cases h), (fun h => by cases h), (fun h => by cases h), (fun h => by cases h), (fun h => by cases h), (fun h => by cases h), (fun h => by cases h), (fun h => by cases h), (fun h => by cases h), (fun h => by cases h), (fun h => by cases h), (fun h => by cases h), (fun h => by cases h), trivial⟩) rfl) ⟨_, rfl, rfl⟩ rfl ?_
          refine .q (op_move rfl) ⟨_, rfl, rfl⟩ rfl ?_
          refine .q (op_cmpI rfl rfl rfl) ⟨_, rfl, rfl⟩ rfl ?_
          refine .q (op_pick_true rfl rfl rfl) trivial rfl ?_
          refine .q (op_assign rfl) trivial rfl ?_
          refine .nil ?_
          show Ev _ _ _ _ _
          refine .ret ?_
          show RetOk _ _ _ _ _ _ _
          exact ret1v rfl (.inl rfl) rfl rfl trivial
        · refine .q (op_call (U := []) [] [] (popen_mac e (tK w key a by_) (tN w (List.replicate 12 (0 : UInt8)) a by_) (tS w SE a by_) (tX w (extra.take 30) by_) (by rw [length_tK]; exact hk) (by rw [length_tN]; rfl) (by rw [length_tS]; omega) (by have h9 := length_tX w (extra.take 30) by_; rw [List.length_take] at h9; omega) (by rw [length_tS]; omega) hTag eo) Tryd.func13 (by kernel_rfl) rfl rfl rfl (⟨⟨_, rfl, rfl, rfl⟩, ⟨_, rfl, rfl, rfl⟩, ⟨_, rfl, rfl, rfl⟩, ⟨_, rfl, rfl, rfl⟩, trivial⟩) (⟨⟨_, _, rfl, rfl, rfl, rfl, (fun h => by cases h), rfl⟩, ⟨_, _, rfl, rfl, rfl, rfl, (fun h => by cases h), rfl⟩, trivial⟩) (trivial) (⟨(fun h => by cases h), (fun h => by cases h), trivial⟩) rfl) trivial rfl ?_
          refine .q (op_move rfl) trivial rfl ?_
          refine .q (op_extract rfl rfl) trivial rfl ?_
          refine .q (op_extract rfl rfl) trivial rfl ?_
          refine .q (op_assign rfl) trivial rfl ?_
          refine .q (op_assign rfl) trivial rfl ?_
          refine .nil ?_
          show Ev _ _ _ _ _
          refine .seq ?_
          refine .drawn [[], [0], [], [2], [], [4], [], [0, 1, 2, 3, 4, 5, 6], [0, 1, 2, 3, 4, 5, 6, 7], [0, 1, 2, 3, 4, 5, 6, 7, 8], [0, 1, 2, 3, 4, 5, 6, 7, 8], [0, 1, 2, 3, 4, 5, 6, 7, 8, 9], [0, 1, 2, 3, 4, 5, 6, 7, 8, 9, 10, 11]] [0, 1, 2, 3, 5, 7] [] (by kernel_rfl) (by kernel_rfl) rfl ?_
          show DK _ [0, 1, 2, 3, 4, 5, 6, 7, 8, 9, 10, 11, 12] _ _ _
          refine .q rfl (ap_slice_arr_hi Tryd.underlying22 inf5.sz rfl rfl (by first | (rw [show (AV.aggB (tK w key a by_)).len = (tK w key a by_).length from rfl, length_tK, hk]; omega) | omega) (by decide) rfl (by first | (rw [show (AV.aggB (tK w key a by_)).len = (tK w key a by_).length from rfl, length_tK, hk]; omega) | omega)) trivial ?_
          refine .q rfl (op_bytes_str Tryd.underlying23 Tryd.underlying5 Tryd.underlying9 rfl rfl rfl (by rw [length_tK, hk]; omega)) trivial ?_
          refine .as (.str (tK w key a by_)) (by rw [List.drop_zero, List.take_of_length_le (by rw [length_tK, hk]; omega)]) ?_
          refine .q rfl (ap_slice_arr_hi Tryd.underlying34 inf5.sz rfl rfl (by first | (rw [show (AV.aggB (tN w (List.replicate 12 (0 : UInt8)) a by_)).len = (tN w (List.replicate 12 (0 : UInt8)) a by_).length from rfl, length_tN]; simp; done) | omega) (by decide) rfl (by first | (rw [show (AV.aggB (tN w (List.replicate 12 (0 : UInt8)) a by_)).len = (tN w (List.replicate 12 (0 : UInt8)) a by_).length from rfl, length_tN]; simp; done) | omega)) trivial ?_
          refine .q rfl (op_bytes_str Tryd.underlying23 Tryd.underlying5 Tryd.underlying9 rfl rfl rfl (by rw [length_tN]; simp)) trivial ?_
          refine .as (.str (tN w (List.replicate 12 (0 : UInt8)) a by_)) (by rw [List.drop_zero, List.take_of_length_le (by rw [length_tN]; simp)]) ?_
          refine .q rfl (op_move rfl) trivial ?_
          refine .q rfl (op_bytes_str Tryd.underlying23 Tryd.underlying5 Tryd.underlying9 rfl rfl rfl (by omega)) trivial ?_
          refine .as (.str (tS w SE a by_)) (by rw [List.drop_zero, List.take_of_length_le (Nat.le_refl _)]) ?_
          refine .q rfl (op_move rfl) trivial ?_
          refine .q rfl (op_call (U := []) [] [] (ropen_mac (tK w key a by_) (tN w (List.replicate 12 (0 : UInt8)) a by_) (tS w SE a by_) (tX w (extra.take 30) by_) (by rw [length_tK]; exact hk) (by rw [length_tN]; rfl) (by rw [length_tS]; omega) (by have h9 := length_tX w (extra.take 30) by_; rw [List.length_take] at h9; omega) (by rw [length_tS]; omega) hTag) Tryd.func14 (by kernel_rfl) rfl rfl rfl (⟨⟨_, rfl, rfl, rfl⟩, ⟨_, rfl, rfl, rfl⟩, ⟨_, rfl, rfl, rfl⟩, ⟨_, rfl, rfl, rfl⟩, trivial⟩) (trivial) (trivial) (trivial) rfl) trivial ?_
          refine .q rfl (op_move rfl) trivial ?_
          refine .q rfl (op_extract rfl rfl) trivial ?_
          refine .q rfl (op_extract rfl rfl) trivial ?_
          refine .q rfl (op_assign rfl) trivial ?_
          refine .q rfl (op_assign rfl) trivial ?_
          refine .nil ?_
          show Ev _ _ _ _ _
          refine .seq ?_
          refine .region ?_
          refine .q (op_move rfl) trivial rfl ?_
          refine .q (op_move rfl) trivial rfl ?_
          refine .q (op_eqS rfl rfl rfl) trivial rfl ?_
          refine .q (op_move rfl) trivial rfl ?_
          refine .know (b' := true) (beq_self_eq_true _) ?_
          refine .q (op_move rfl) ⟨_, rfl, rfl⟩ rfl ?_
          refine .q (op_call (U := []) [] [] (code_5 eo hd) Tryd.func15 (by kernel_rfl) rfl rfl rfl (⟨⟨_, rfl, rfl, rfl⟩, trivial⟩) (⟨⟨_, _, rfl, rfl, rfl, rfl, (fun h => by cases h), rfl⟩, ⟨_, _, rfl, rfl, rfl, rfl, (fun h => by cases h), rfl⟩, ⟨_, _, rfl, rfl, rfl, rfl, (fun h => by cases h), rfl⟩, ⟨_, _, rfl, rfl, rfl, rfl, (fun h => by cases h), rfl⟩, ⟨_, _, rfl, rfl, rfl, rfl, (fun h => by cases h), rfl⟩, ⟨_, _, rfl, rfl, rfl, rfl, (fun h => by cases h), rfl⟩, ⟨_, _, rfl, rfl, rfl, rfl, (fun h => by cases h), rfl⟩, ⟨_, _, rfl, rfl, rfl, rfl, (fun h => by cases h), rfl⟩, ⟨_, _, rfl, rfl, rfl, rfl, (fun h => by cases h), rfl⟩, ⟨_, _, rfl, rfl, rfl, rfl, (fun h => by cases h), rfl⟩, ⟨_, _, rfl, rfl, rfl, rfl, (fun h => by cases h), rfl⟩, ⟨_, _, rfl, rfl, rfl, rfl, (fun h => by cases h), rfl⟩, ⟨_, _, rfl, rfl, rfl, rfl, (fun h => by cases h), rfl⟩, ⟨_, _, rfl, rfl, rfl, rfl, (fun h => by cases h), rfl⟩, ⟨_, _, rfl, rfl, rfl, rfl, (fun h => by cases h), rfl⟩, ⟨_, _, rfl, rfl, rfl, rfl, (fun h => by cases h), rfl⟩, ⟨_, _, rfl, rfl, rfl, rfl, (fun h => by cases h), rfl⟩, ⟨_, _, rfl, rfl, rfl, rfl, (fun h => by cases h), rfl⟩, ⟨_, _, rfl, rfl, rfl, rfl, (fun h => by cases h), rfl⟩, ⟨_, _, rfl, rfl, rfl, rfl, (fun h => by cases h), rfl⟩, ⟨_, _, rfl, rfl, rfl, rfl, (fun h => by cases h), rfl⟩, ⟨_, _, rfl, rfl, rfl, rfl, (fun h => by cases h), rfl⟩, ⟨_, _, rfl, rfl, rfl, rfl, (fun h => by cases h), rfl⟩, ⟨_, _, rfl, rfl, rfl, rfl, (fun h => by cases h), rfl⟩, ⟨_, _, rfl, rfl, rfl, rfl, (fun h => by cases h), rfl⟩, ⟨_, _, rfl, rfl, rfl, rfl, (fun h => by cases h), rfl⟩, ⟨_, _, rfl, rfl, rfl, rfl, (fun h => by cases h), rfl⟩, ⟨_, _, rfl, rfl, rfl, rfl, (fun h => by cases h), rfl⟩, ⟨_, _, rfl, rfl, rfl, rfl, (fun h => by cases h), rfl⟩, ⟨_, _, rfl, rfl, rfl, rfl, (fun h => by cases h), rfl⟩, ⟨_, _, rfl, rfl, rfl, rfl, (fun h => by cases h), rfl⟩, ⟨_, _, rfl, rfl, rfl, rfl, (fun h => by cases h), rfl⟩, ⟨_, _, rfl, rfl, rfl, rfl, (fun h => by cases h), rfl⟩, ⟨_, _, rfl, rfl, rfl, rfl, (fun h => by cases h), rfl⟩, ⟨_, _, rfl, rfl, rfl, rfl, (fun h => by cases h), rfl⟩, ⟨_, _, rfl, rfl, rfl, rfl, (fun h => by cases h), rfl⟩, ⟨_, _, rfl, rfl, rfl, rfl, (fun h => by cases h), rfl⟩, ⟨_, _, rfl, rfl, rfl, rfl, (fun h => by cases h), rfl⟩, ⟨_, _, rfl, rfl, rfl, rfl, (fun h => by cases h), rfl⟩, ⟨_, _, rfl, rfl, rfl, rfl, (fun h => by cases h), rfl⟩, trivial⟩) (trivial) (⟨(fun h => by cases h), (fun h => by cases h), (fun h => by cases h), (fun h => by cases h), (fun h => by cases h), (fun h => by cases h), (fun h => by cases h), (fun h => by cases h), (fun h => by cases h), (fun h => by cases h), (fun h => by cases h), (fun h => by cases h), (fun h => by cases h), (fun h => by cases h), (fun h => by cases h), (fun h => by cases h), (fun h => by cases h), (fun h => by cases h), (fun h => by cases h), (fun h => by cases h), (fun h => by cases h), (fun h => by cases h), (fun h => by cases h), (fun h => by cases h), (fun h => by cases h), (fun h => by cases h), (fun h => by cases h), (fun h => by cases h), (fun h => by cases h), (fun h => by cases h), (fun h => by cases h), (fun h => by cases h), (fun h => by cases h), (fun h => by cases h), (fun h => by cases h), (fun h => by cases h), (fun h => by cases h), (fun h => by cases h), (fun h => by cases h), (fun h => by cases h), trivial⟩) rfl) ⟨_, rfl, rfl⟩ rfl ?_
          refine .q (op_move rfl) ⟨_, rfl, rfl⟩ rfl ?_
          refine .q (op_cmpI rfl rfl rfl) ⟨_, rfl, rfl⟩ rfl ?_
          refine .q (op_pick_true rfl rfl rfl) trivial rfl ?_
          refine .q (op_assign rfl) trivial rfl ?_
          refine .nil ?_
          show Ev _ _ _ _ _
          refine .ret ?_
          show RetOk _ _ _ _ _ _ _
          exact ret1v rfl (.inl rfl) rfl rfl trivial
theorem polyTurned_ev (eo : Nat → Nat × Nat) (hd : ∀ i j, i < 20 → j < 20 → i ≠ j → eo i ≠ eo j) (e : Nat) (key text extra : List UInt8) (wh at_ : Int) (by_ : UInt8) (hk : key.length = 32) (ht : text.length ≤ maxLen) (he : extra.length ≤ maxLen) : Meets Tryd.prog 5 [.agg (turnC key text extra wh at_ by_)] [(21, some ⟨.aggI qsTab, e, false⟩), (2, some ⟨.agg [.err 192 (1) (offE eo (1))], errT, false⟩), (0, some ⟨.agg [.err 192 (2) (offE eo (2))], errT, false⟩), (3, some ⟨.agg [.err 192 (3) (offE eo (3))], errT, false⟩), (4, some ⟨.agg [.err 192 (4) (offE eo (4))], errT, false⟩), (1, some ⟨.agg [.err 192 (5) (offE eo (5))], errT, false⟩), (5, some ⟨.agg [.err 192 (6) (offE eo (6))], errT, false⟩), (6, some ⟨.agg [.err 192 (7) (offE eo (7))], errT, false⟩), (7, some ⟨.agg [.err 192 (8) (offE eo (8))], errT, false⟩), (8, some ⟨.agg [.err 192 (9) (offE eo (9))], errT, false⟩), (9, some ⟨.agg [.err 192 (10) (offE eo (10))], errT, false⟩), (10, some ⟨.agg [.err 192 (11) (offE eo (11))], errT, false⟩), (11, some ⟨.agg [.err 192 (12) (offE eo (12))], errT, false⟩), (12, some ⟨.agg [.err 192 (13) (offE eo (13))], errT, false⟩), (13, some ⟨.agg [.err 192 (14) (offE eo (14))], errT, false⟩), (14, some ⟨.agg [.err 192 (15) (offE eo (15))], errT, false⟩), (15, some ⟨.agg [.err 192 (16) (offE eo (16))], errT, false⟩), (16, some ⟨.agg [.err 192 (17) (offE eo (17))], errT, false⟩), (17, some ⟨.agg [.err 192 (18) (offE eo (18))], errT, false⟩), (18, some ⟨.agg [.err 192 (19) (offE eo (19))], errT, false⟩), (19, some ⟨.agg [.err 192 (20) (offE eo (20))], errT, false⟩), (401, some ⟨.agg [], errT, false⟩), (402, some ⟨.agg [], errT, false⟩), (403, some ⟨.agg [], errT, false⟩), (404, some ⟨.agg [], errT, false⟩), (405, some ⟨.agg [], errT, false⟩), (406, some ⟨.agg [], errT, false⟩), (407, some ⟨.agg [], errT, false⟩), (408, some ⟨.agg [], errT, false⟩), (409, some ⟨.agg [], errT, false⟩), (410, some ⟨.agg [], errT, false⟩), (411, some ⟨.agg [], errT, false⟩), (412, some ⟨.agg [], errT, false⟩), (413, some ⟨.agg [], errT, false⟩), (414, some ⟨.agg [], errT, false⟩), (415, some ⟨.agg [], errT, false⟩), (416, some ⟨.agg [], errT, false⟩), (417, some ⟨.agg [], errT, false⟩), (418, some ⟨.agg [], errT, false⟩), (419, some ⟨.agg [], errT, false⟩), (420, some ⟨.agg [], errT, false⟩)] (.bool true) [] :=
  polyTurned_w eo hd e key text extra wh at_ by_ hk ht he _ rfl (at_ % 65536).toNat (by omega) _ rfl (length_sealL _ _ _ _)
end Go.Proofs.YtgblhjmnenmlkaaDoor
