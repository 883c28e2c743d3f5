/-
  Texts of this claim.
-/
import Derived.Test.YtdmlpblaelfdmaaGreatDoorGEP
import Derived.Test.YtdmlpblaelfdmaaGreatDoorGSP
namespace Go.Proofs.YtdmlpblaelfdmaaGreatDoor
open Go.RowKit
/-- The words of a state. -/
def stR (s : St64) : List UInt64 := [s.v0, s.v1, s.v2, s.v3, s.v4, s.v5, s.v6, s.v7]
set_option maxRecDepth 100000 in
theorem rcut32_ev (x : UInt64) : Meets Tryz.prog 169 [.u64 x, .i64 32] [] (.u64 (rcut 32 x)) [] := by
 refine meets_of_ev (nt := 10) Tryz.func169 rfl rfl (Nat.le_of_ble_eq_true rfl) ?_
 refine .seq ?_
 refine .region ?_
 refine .q (op_assign rfl) trivial rfl ?_
 refine .nil ?_
 show Ev _ _ _ _ _
 refine .seq ?_
 refine .seq ?_
 refine .region ?_
 refine .q (op_move rfl) trivial rfl ?_
 refine .q (op_cmpI rfl rfl rfl) trivial rfl ?_
 refine .nil ?_
 show Ev _ _ _ _ _
 refine .cond_true rfl (rfl) ?_
 refine .seq ?_
 refine .region ?_
 refine .q (op_move rfl) trivial rfl ?_
 refine .q (op_rem64 rfl rfl (by decide)) trivial rfl ?_
 refine .q (op_assign rfl) trivial rfl ?_
 refine .nil ?_
 show Ev _ _ _ _ _
 refine .ret ?_
 show RetOk _ _ _ _ _ _ _
 exact ret1v rfl (.inl rfl) rfl rfl trivial
set_option maxRecDepth 100000 in
theorem rcut64_ev (x : UInt64) : Meets Tryz.prog 169 [.u64 x, .i64 64] [] (.u64 (rcut 64 x)) [] := by
 refine meets_of_ev (nt := 10) Tryz.func169 rfl rfl (Nat.le_of_ble_eq_true rfl) ?_
 refine .seq ?_
 refine .region ?_
 refine .q (op_assign rfl) trivial rfl ?_
 refine .nil ?_
 show Ev _ _ _ _ _
 refine .seq ?_
 refine .seq ?_
 refine .region ?_
 refine .q (op_move rfl) trivial rfl ?_
 refine .q (op_cmpI rfl rfl rfl) trivial rfl ?_
 refine .nil ?_
 show Ev _ _ _ _ _
 refine .cond_false rfl (rfl) ?_
 refine .skip ?_
 show Ev _ _ _ _ _
 refine .seq ?_
 refine .region ?_
 refine .q (op_move rfl) trivial rfl ?_
 refine .q (op_assign rfl) trivial rfl ?_
 refine .nil ?_
 show Ev _ _ _ _ _
 refine .ret ?_
 show RetOk _ _ _ _ _ _ _
 exact ret1v rfl (.inl rfl) rfl rfl trivial
theorem rcut_ev (x : UInt64) (W : Nat) (hW : W = 32 ∨ W = 64) : Meets Tryz.prog 169 [.u64 x, .i64 ((W : Nat) : Int)] [] (.u64 (rcut W x)) [] := by
 rcases hW with rfl | rfl
 ·exact rcut32_ev x
 ·exact rcut64_ev x
set_option maxRecDepth 100000 in
theorem rright_ev (x : UInt64) (n W : Nat) (h1 : 1 ≤ n) (h2 : n < W) (hW : W = 32 ∨ W = 64) : Meets Tryz.prog 185 [.u64 x, .i64 ((n : Nat) : Int), .i64 ((W : Nat) : Int)] [] (.u64 (rright W x n)) [] := by
 refine meets_of_ev (nt := 18) Tryz.func185 rfl rfl (Nat.le_of_ble_eq_true rfl) ?_
 refine .seq ?_
 refine .region ?_
 refine .q (op_assign rfl) trivial rfl ?_
 refine .nil ?_
 show Ev _ _ _ _ _
 refine .seq ?_
 refine .drawn [[], [], [0, 1], [], [], [], [4, 5], [3, 4, 5, 6], [0, 1, 2, 3, 4, 5, 6, 7], [], [0, 1, 2, 3, 4, 5, 6, 7, 8, 9], [0, 1, 2, 3, 4, 5, 6, 7, 8, 9, 10]] [10] [] (by kernel_rfl) (by kernel_rfl) rfl ?_
 show DK _ [0, 1, 2, 3, 4, 5, 6, 7, 8, 9, 10, 11] _ _ _
 refine .q rfl (op_move rfl) trivial ?_
 refine .q rfl (op_move rfl) trivial ?_
 refine .q rfl (op_shr64 (n := n) rfl rfl rfl (by omega)) trivial ?_
 refine .q rfl (op_move rfl) trivial ?_
 refine .q rfl (op_move rfl) trivial ?_
 refine .q rfl (op_move rfl) trivial ?_
 refine .q rfl (op_subI rfl rfl ⟨by omega, by omega⟩) trivial ?_
 refine .as (.i64 ((W - n : Nat) : Int)) (congrArg AV.i64 (by omega)) ?_
 refine .q rfl (op_shl64 (n := W - n) rfl rfl rfl (by omega)) trivial ?_
 refine .q rfl (op_bin64 rfl rfl rfl) trivial ?_
 refine .q rfl (op_move rfl) trivial ?_
 refine .q rfl (op_call (U := []) [] [] (rcut_ev ((x >>> UInt64.ofNat n) ||| (x <<< UInt64.ofNat (W - n))) W hW) Tryz.func169 (by kernel_rfl) rfl rfl rfl (⟨⟨_, rfl, rfl, rfl⟩, ⟨_, rfl, rfl, rfl⟩, trivial⟩) (trivial) (trivial) (trivial) rfl) trivial ?_
 refine .q rfl (op_assign rfl) trivial ?_
 refine .nil ?_
 show Ev _ _ _ _ _
 refine .ret ?_
 show RetOk _ _ _ _ _ _ _
 exact ret1v rfl (.inl rfl) rfl rfl trivial
set_option maxRecDepth 100000 in
theorem rthree_t (x : UInt64) (a b c W : Nat) (ha : 1 ≤ a) (hb : 1 ≤ b) (hc : 1 ≤ c) (ha2 : a < W) (hb2 : b < W) (hc2 : c < W) (hW : W = 32 ∨ W = 64) : Meets Tryz.prog 168 [.u64 x, .i64 ((a : Nat) : Int), .i64 ((b : Nat) : Int), .i64 ((c : Nat) : Int), .i64 ((W : Nat) : Int), .bool true] [] (.u64 (rthree W x a b c true)) [] := by
 refine meets_of_ev (nt := 33) Tryz.func168 rfl rfl (Nat.le_of_ble_eq_true rfl) ?_
 refine .seq ?_
 refine .region ?_
 refine .q (op_assign rfl) trivial rfl ?_
 refine .nil ?_
 show Ev _ _ _ _ _
 refine .seq ?_
 refine .region ?_
 refine .q (op_move rfl) trivial rfl ?_
 refine .q (op_move rfl) trivial rfl ?_
 refine .q (op_move rfl) trivial rfl ?_
 refine .q (op_call (U := []) [] [] (rright_ev x c W (by omega) (by omega) hW) Tryz.func185 (by kernel_rfl) rfl rfl rfl (⟨⟨_, rfl, rfl, rfl⟩, ⟨_, rfl, rfl, rfl⟩, ⟨_, rfl, rfl, rfl⟩, trivial⟩) (trivial) (trivial) (trivial) rfl) trivial rfl ?_
 refine .q (op_assign rfl) trivial rfl ?_
 refine .nil ?_
 show Ev _ _ _ _ _
 refine .seq ?_
 refine .seq ?_
 refine .region ?_
 refine .q (op_move rfl) trivial rfl ?_
 refine .nil ?_
 show Ev _ _ _ _ _
 refine .cond_true rfl (rfl) ?_
 refine .region ?_
 refine .q (op_move rfl) trivial rfl ?_
 refine .q (op_move rfl) trivial rfl ?_
 refine .q (op_shr64 (n := c) rfl rfl rfl (by omega)) trivial rfl ?_
 refine .q (op_assign rfl) trivial rfl ?_
 refine .nil ?_
 show Ev _ _ _ _ _
 refine .seq ?_
 refine .region ?_
 refine .q (op_move rfl) trivial rfl ?_
 refine .q (op_move rfl) trivial rfl ?_
 refine .q (op_move rfl) trivial rfl ?_
 refine .q (op_call (U := []) [] [] (rright_ev x a W (by omega) (by omega) hW) Tryz.func185 (by kernel_rfl) rfl rfl rfl (⟨⟨_, rfl, rfl, rfl⟩, ⟨_, rfl, rfl, rfl⟩, ⟨_, rfl, rfl, rfl⟩, trivial⟩) (trivial) (trivial) (trivial) rfl) trivial rfl ?_
 refine .q (op_move rfl) trivial rfl ?_
 refine .q (op_move rfl) trivial rfl ?_
 refine .q (op_move rfl) trivial rfl ?_
 refine .q (op_call (U := []) [] [] (rright_ev x b W (by omega) (by omega) hW) Tryz.func185 (by kernel_rfl) rfl rfl rfl (⟨⟨_, rfl, rfl, rfl⟩, ⟨_, rfl, rfl, rfl⟩, ⟨_, rfl, rfl, rfl⟩, trivial⟩) (trivial) (trivial) (trivial) rfl) trivial rfl ?_
 refine .q (op_bin64 rfl rfl rfl) trivial rfl ?_
 refine .q (op_move rfl) trivial rfl ?_
 refine .q (op_bin64 rfl rfl rfl) trivial rfl ?_
 refine .q (op_assign rfl) trivial rfl ?_
 refine .nil ?_
 show Ev _ _ _ _ _
 refine .ret ?_
 show RetOk _ _ _ _ _ _ _
 exact ret1v rfl (.inl rfl) rfl rfl trivial
set_option maxRecDepth 100000 in
theorem rthree_f (x : UInt64) (a b c W : Nat) (ha : 1 ≤ a) (hb : 1 ≤ b) (hc : 1 ≤ c) (ha2 : a < W) (hb2 : b < W) (hc2 : c < W) (hW : W = 32 ∨ W = 64) : Meets Tryz.prog 168 [.u64 x, .i64 ((a : Nat) : Int), .i64 ((b : Nat) : Int), .i64 ((c : Nat) : Int), .i64 ((W : Nat) : Int), .bool false] [] (.u64 (rthree W x a b c false)) [] := by
 refine meets_of_ev (nt := 33) Tryz.func168 rfl rfl (Nat.le_of_ble_eq_true rfl) ?_
 refine .seq ?_
 refine .region ?_
 refine .q (op_assign rfl) trivial rfl ?_
 refine .nil ?_
 show Ev _ _ _ _ _
 refine .seq ?_
 refine .region ?_
 refine .q (op_move rfl) trivial rfl ?_
 refine .q (op_move rfl) trivial rfl ?_
 refine .q (op_move rfl) trivial rfl ?_
 refine .q (op_call (U := []) [] [] (rright_ev x c W (by omega) (by omega) hW) Tryz.func185 (by kernel_rfl) rfl rfl rfl (⟨⟨_, rfl, rfl, rfl⟩, ⟨_, rfl, rfl, rfl⟩, ⟨_, rfl, rfl, rfl⟩, trivial⟩) (trivial) (trivial) (trivial) rfl) trivial rfl ?_
 refine .q (op_assign rfl) trivial rfl ?_
 refine .nil ?_
 show Ev _ _ _ _ _
 refine .seq ?_
 refine .seq ?_
 refine .region ?_
 refine .q (op_move rfl) trivial rfl ?_
 refine .nil ?_
 show Ev _ _ _ _ _
 refine .cond_false rfl (rfl) ?_
 refine .skip ?_
 show Ev _ _ _ _ _
 refine .seq ?_
 refine .region ?_
 refine .q (op_move rfl) trivial rfl ?_
 refine .q (op_move rfl) trivial rfl ?_
 refine .q (op_move rfl) trivial rfl ?_
 refine .q (op_call (U := []) [] [] (rright_ev x a W (by omega) (by omega) hW) Tryz.func185 (by kernel_rfl) rfl rfl rfl (⟨⟨_, rfl, rfl, rfl⟩, ⟨_, rfl, rfl, rfl⟩, ⟨_, rfl, rfl, rfl⟩, trivial⟩) (trivial) (trivial) (trivial) rfl) trivial rfl ?_
 refine .q (op_move rfl) trivial rfl ?_
 refine .q (op_move rfl) trivial rfl ?_
 refine .q (op_move rfl) trivial rfl ?_
 refine .q (op_call (U := []) [] [] (rright_ev x b W (by omega) (by omega) hW) Tryz.func185 (by kernel_rfl) rfl rfl rfl (⟨⟨_, rfl, rfl, rfl⟩, ⟨_, rfl, rfl, rfl⟩, ⟨_, rfl, rfl, rfl⟩, trivial⟩) (trivial) (trivial) (trivial) rfl) trivial rfl ?_
 refine .q (op_bin64 rfl rfl rfl) trivial rfl ?_
 refine .q (op_move rfl) trivial rfl ?_
 refine .q (op_bin64 rfl rfl rfl) trivial rfl ?_
 refine .q (op_assign rfl) trivial rfl ?_
 refine .nil ?_
 show Ev _ _ _ _ _
 refine .ret ?_
 show RetOk _ _ _ _ _ _ _
 exact ret1v rfl (.inl rfl) rfl rfl trivial
set_option maxHeartbeats 4000000 in
set_option maxRecDepth 100000 in
theorem rk_ev (t : Nat) (h : t < 80) : Meets Tryz.prog 170 [.i64 ((t : Nat) : Int)] [] (.u64 (K512.getD t 0)) [] := by
 refine meets_of_ev (nt := 7) Tryz.func170 rfl rfl (Nat.le_of_ble_eq_true rfl) ?_
 refine .seq ?_
 refine .region ?_
 refine .q (op_assign rfl) trivial rfl ?_
 refine .nil ?_
 show Ev _ _ _ _ _
 refine .seq ?_
 refine .region ?_
 refine .a (ap_build (us := K512.map AV.u64) (c := .agg64 K512) Tryz.underlying203 inf25 (by rfl) (by decide) (by decide) (by exact ⟨rfl, rfl, rfl, rfl, rfl, rfl, rfl, rfl, rfl, rfl, rfl, rfl, rfl, rfl, rfl, rfl, rfl, rfl, rfl, rfl, rfl, rfl, rfl, rfl, rfl, rfl, rfl, rfl, rfl, rfl, rfl, rfl, rfl, rfl, rfl, rfl, rfl, rfl, rfl, rfl, rfl, rfl, rfl, rfl, rfl, rfl, rfl, rfl, rfl, rfl, rfl, rfl, rfl, rfl, rfl, rfl, rfl, rfl, rfl, rfl, rfl, rfl, rfl, rfl, rfl, rfl, rfl, rfl, rfl, rfl, rfl, rfl, rfl, rfl, rfl, rfl, rfl, rfl, rfl, rfl, rfl, rfl, rfl, rfl, rfl, rfl, rfl, rfl, rfl, rfl, rfl, rfl, rfl, rfl, rfl, rfl, rfl, rfl, rfl, rfl, rfl, rfl, rfl, rfl, rfl, rfl, rfl, rfl, rfl, rfl, rfl, rfl, rfl, rfl, rfl, rfl, rfl, rfl, rfl, rfl, rfl, rfl, rfl, rfl, rfl, rfl, rfl, rfl, rfl, rfl, rfl, rfl, rfl, rfl, rfl, rfl, rfl, rfl, rfl, rfl, rfl, rfl, rfl, rfl, rfl, rfl, rfl, rfl, rfl, rfl, rfl, rfl, rfl, rfl, rfl, rfl, rfl, rfl, rfl, rfl, rfl, rfl, rfl, rfl, rfl, rfl, rfl, rfl, rfl, rfl, rfl, rfl, rfl, rfl, rfl, rfl, rfl, rfl, rfl, rfl, rfl, rfl, rfl, rfl, rfl, rfl, rfl, rfl, rfl, rfl, rfl, rfl, rfl, rfl, rfl, rfl, rfl, rfl, rfl, rfl, rfl, rfl, rfl, rfl, rfl, rfl, rfl, rfl, rfl, rfl, rfl, rfl, rfl, rfl, rfl, rfl, rfl, rfl, rfl, rfl, rfl, rfl, rfl, rfl, rfl, rfl, rfl, rfl, rfl, rfl, rfl, rfl, rfl, rfl, rfl, rfl, rfl, rfl, rfl, rfl, trivial⟩) (by rfl)) trivial rfl ?_
 refine .q (op_move rfl) trivial rfl ?_
 refine .q (ap_idx0 Tryz.underlying203 inf25.sz rfl rfl rfl (by show t < 80; omega)) trivial rfl ?_
 refine .q (op_load Tryz.underlying25 rfl rfl rfl rfl (by show t < K512.length; exact h)) trivial rfl ?_
 refine .q (op_assign rfl) trivial rfl ?_
 refine .nil ?_
 show Ev _ _ _ _ _
 refine .ret ?_
 show RetOk _ _ _ _ _ _ _
 exact ret1v rfl (.inl rfl) rfl rfl trivial
set_option maxRecDepth 100000 in
theorem rstart_ev  : Meets Tryz.prog 123 [] [] (.sl 1000 0 8 1) [(1000, some ⟨.agg64 (stR rstart64), 25, true⟩)] := by
 refine meets_of_ev (nt := 2) Tryz.func123 rfl rfl (Nat.le_of_ble_eq_true rfl) ?_
 refine .seq ?_
 refine .region ?_
 refine .q (op_assign rfl) trivial rfl ?_
 refine .nil ?_
 show Ev _ _ _ _ _
 refine .seq ?_
 refine .region ?_
 refine .a (ap_build (us := [_, _, _, _, _, _, _, _]) (c := .agg64 [_, _, _, _, _, _, _, _]) Tryz.underlying203 inf25 rfl (by decide) (by decide) ⟨rfl, rfl, rfl, rfl, rfl, rfl, rfl, rfl, rfl, rfl, rfl, rfl, rfl, rfl, rfl, rfl, rfl, rfl, rfl, rfl, rfl, rfl, rfl, rfl, trivial⟩ rfl) trivial rfl ?_
 refine .q (op_assign rfl) trivial rfl ?_
 refine .nil ?_
 show Ev _ _ _ _ _
 refine .ret ?_
 show RetOk _ _ _ _ _ _ _
 exact ret1v rfl (.inl rfl) rfl rfl ⟨rfl, trivial⟩
end Go.Proofs.YtdmlpblaelfdmaaGreatDoor
namespace Go.Proofs.YtdmlpblaelfdmaaGreatDoor
open Go.RowKit
/-- Bytes read as a word, the highest first. -/
def rbN (bs : List UInt8) (o : Nat) : Nat → UInt64
  | 0 => 0
  | i + 1 => rbN bs o i * 256 + (bs.getD (o + i) 0).toUInt64
theorem rbN_take (bs : List UInt8) (o n : Nat) (h : o + n ≤ bs.length) : rbN bs o n = rbe ((bs.drop o).take n) := by
  induction n with
  | zero => simp [rbN, rbe]
  | succ n ih =>
    have e : (bs.drop o).take (n + 1) = (bs.drop o).take n ++ [bs.getD (o + n) 0] := by
      rw [List.take_succ_eq_append_getElem (by simp; omega)]
      simp [List.getD_eq_getElem?_getD, show o + n < bs.length by omega]
    rw [e, rbN, ih (by omega)]
    simp [rbe, List.foldl_append]
theorem length_rsch (bs : List UInt8) (t : Nat) : (rsch32 bs t).length = t := by
  induction t with
  | zero => rfl
  | succ t ih => simp [rsch32, ih]
theorem rsch_lt (bs : List UInt8) (hb : bs.length = 64) (j : Nat) (h : j < 16) : rsch32 bs (j + 1) = rsch32 bs j ++ [rcut 32 (rbN bs (4 * j) 4)] := by
  rw [rsch32, if_pos h, rbN_take _ _ _ (by omega), Nat.mul_comm 4 j]
theorem rsch_ge (bs : List UInt8) (j : Nat) (h : ¬ j < 16) : rsch32 bs (j + 1) = rsch32 bs j ++ [rcut 32 (rnext32 (rsch32 bs j) j)] := by
  rw [rsch32, if_neg h]
/-- The sums of two states' words. -/
def outR (h r : List UInt64) : Nat → List UInt64
  | 0 => []
  | j + 1 => outR h r j ++ [rcut 32 (h.getD j 0 + r.getD j 0)]
theorem length_outR (h r : List UInt64) (j : Nat) : (outR h r j).length = j := by
  induction j with
  | zero => rfl
  | succ j ih => simp [outR, ih]
theorem outR_add (h r : St64) : outR (stR h) (stR r) 8 = stR (radd32 h r) := rfl
set_option maxHeartbeats 1000000 in
set_option maxRecDepth 100000 in
theorem rblock_ev (h : St64) (bs : List UInt8) (e : Nat) (hb : bs.length = 64) : Meets Tryz.prog 124 [.sl 500 0 8 1, .str bs, .i64 32] [(500, some ⟨.agg64 (stR h), e, false⟩)] (.sl 1024 0 8 1) [(1024, some ⟨.agg64 (stR (rblock32 h bs)), 25, true⟩)] := by
 obtain ⟨R, hR⟩ : ∃ R, rsch32 bs 64 = R := ⟨_, rfl⟩
 have hlR : R.length = 64 := by rw [← hR]; exact length_rsch bs 64
 obtain ⟨r, hr⟩ : ∃ r, rrounds32 R h 64 = r := ⟨_, rfl⟩
 refine meets_of_ev (nt := 231) Tryz.func124 rfl rfl (Nat.le_of_ble_eq_true rfl) ?_
 refine .seq ?_
 refine .region ?_
 refine .q (op_assign rfl) trivial rfl ?_
 refine .nil ?_
 show Ev _ _ _ _ _
 refine .seq ?_
 refine .region ?_
 refine .q (op_assign rfl) trivial rfl ?_
 refine .nil ?_
 show Ev _ _ _ _ _
 refine .seq ?_
 refine .region ?_
 refine .q (op_assign rfl) trivial rfl ?_
 refine .nil ?_
 show Ev _ _ _ _ _
 refine .seq ?_
 refine .seq ?_
 refine .region ?_
 refine .q (op_move rfl) trivial rfl ?_
 refine .q (op_cmpI rfl rfl rfl) trivial rfl ?_
 refine .nil ?_
 show Ev _ _ _ _ _
 refine .cond_false rfl (rfl) ?_
 refine .skip ?_
 show Ev _ _ _ _ _
 refine .seq ?_
 refine .region ?_
 refine .a (ap_build0 (z := 1) (c := .agg64 []) Tryz.underlying203 inf25 rfl) trivial rfl ?_
 refine .q (op_assign rfl) trivial rfl ?_
 refine .nil ?_
 show Ev _ _ _ _ _
 refine .seq ?_
 refine .seq ?_
 refine .region ?_
 refine .q (op_assign rfl) trivial rfl ?_
 refine .nil ?_
 show Ev _ _ _ _ _
 refine .block ?_
 refine Ev.loop (ι := { q : Nat // q ≤ 64 }) (fun q => ⟨[(0, .sl 500 0 8 1), (1, .str bs), (2, .i64 32), (7, .i64 64), (8, .i64 4), (9, .sl 1000 0 q.1 1), (10, .i64 ((q.1 : Nat) : Int))], [(500, some ⟨.agg64 (stR h), e, false⟩), (1000, some ⟨.agg64 (rsch32 bs q.1), 25, true⟩)], 1008⟩) (fun q => 64 - q.1) ⟨0, Nat.zero_le _⟩ (StLe.mk [(1000, 1000)] rfl rfl ⟨⟨_, rfl, by first | rfl | (simp only [AV.ren]; congr 1; omega), rfl⟩, ⟨_, rfl, by first | rfl | (simp only [AV.ren]; congr 1; omega), rfl⟩, ⟨_, rfl, by first | rfl | (simp only [AV.ren]; congr 1; omega), rfl⟩, ⟨_, rfl, by first | rfl | (simp only [AV.ren]; congr 1; omega), rfl⟩, ⟨_, rfl, by first | rfl | (simp only [AV.ren]; congr 1; omega), rfl⟩, ⟨_, rfl, by first | rfl | (simp only [AV.ren]; congr 1; omega), rfl⟩, ⟨_, rfl, by first | rfl | (simp only [AV.ren]; congr 1; omega), rfl⟩, trivial⟩ ⟨⟨_, _, rfl, rfl, by first | rfl | (simp only [AV.ren]; congr 1; omega), rfl, id, rfl⟩, ⟨_, _, rfl, rfl, by first | rfl | (simp only [AV.ren]; congr 1; omega), rfl, id, rfl⟩, trivial⟩) ?_
 rintro ⟨j, hj⟩
 dsimp only
 have hls := length_rsch bs j
 refine .seq ?_
 refine .seq ?_
 refine .region ?_
 refine .q (op_move rfl) trivial rfl ?_
 refine .q (op_move rfl) trivial rfl ?_
 refine .q (op_cmpI rfl rfl rfl) trivial rfl ?_
 refine .nil ?_
 show Ev _ _ _ _ _
 refine .cond rfl (fun hc33 => ?_) (fun hc33 => ?_)
 ·simp only [decide_eq_true_eq] at hc33
  refine .skip ?_
  show Ev _ _ _ _ _
  refine .seq ?_
  refine .block ?_
  refine .seq ?_
  refine .region ?_
  refine .q (op_assign rfl) trivial rfl ?_
  refine .nil ?_
  show Ev _ _ _ _ _
  refine .seq ?_
  refine .seq ?_
  refine .region ?_
  refine .q (op_move rfl) trivial rfl ?_
  refine .q (op_cmpI rfl rfl rfl) trivial rfl ?_
  refine .nil ?_
  show Ev _ _ _ _ _
  refine .cond rfl (fun hc37 => ?_) (fun hc37 => ?_)
  ·simp only [decide_eq_true_eq] at hc37
   refine .seq ?_
   refine .region ?_
   refine .q (op_assign rfl) trivial rfl ?_
   refine .nil ?_
   show Ev _ _ _ _ _
   refine .block ?_
   refine Ev.loop (ι := { q : Nat // q ≤ 4 }) (fun q => ⟨[(0, .sl 500 0 8 1), (1, .str bs), (2, .i64 32), (7, .i64 64), (8, .i64 4), (9, .sl 1000 0 j 1), (10, .i64 ((j : Nat) : Int)), (11, .u64 (rbN bs (4 * j) q.1)), (12, .i64 ((q.1 : Nat) : Int))], [(500, some ⟨.agg64 (stR h), e, false⟩), (1000, some ⟨.agg64 (rsch32 bs j), 25, true⟩)], 1008⟩) (fun q => 4 - q.1) ⟨0, Nat.zero_le _⟩ (StLe.mk [(1000, 1000)] rfl rfl ⟨⟨_, rfl, by first | rfl | (simp only [AV.ren]; congr 1; omega), rfl⟩, ⟨_, rfl, by first | rfl | (simp only [AV.ren]; congr 1; omega), rfl⟩, ⟨_, rfl, by first | rfl | (simp only [AV.ren]; congr 1; omega), rfl⟩, ⟨_, rfl, by first | rfl | (simp only [AV.ren]; congr 1; omega), rfl⟩, ⟨_, rfl, by first | rfl | (simp only [AV.ren]; congr 1; omega), rfl⟩, ⟨_, rfl, by first | rfl | (simp only [AV.ren]; congr 1; omega), rfl⟩, ⟨_, rfl, by first | rfl | (simp only [AV.ren]; congr 1; omega), rfl⟩, ⟨_, rfl, by first | rfl | (simp only [AV.ren]; congr 1; omega), rfl⟩, ⟨_, rfl, by first | rfl | (simp only [AV.ren]; congr 1; omega), rfl⟩, trivial⟩ ⟨⟨_, _, rfl, rfl, by first | rfl | (simp only [AV.ren]; congr 1; omega), rfl, id, rfl⟩, ⟨_, _, rfl, rfl, by first | rfl | (simp only [AV.ren]; congr 1; omega), rfl, id, rfl⟩, trivial⟩) ?_
   rintro ⟨i, hi⟩
   dsimp only
   refine .seq ?_
   refine .seq ?_
   refine .region ?_
   refine .q (op_move rfl) trivial rfl ?_
   refine .q (op_move rfl) trivial rfl ?_
   refine .q (op_cmpI rfl rfl rfl) trivial rfl ?_
   refine .nil ?_
   show Ev _ _ _ _ _
   refine .cond rfl (fun hc40 => ?_) (fun hc40 => ?_)
   ·simp only [decide_eq_true_eq] at hc40
    refine .skip ?_
    show Ev _ _ _ _ _
    refine .seq ?_
    refine .block ?_
    refine .region ?_
    refine .q (op_move rfl) trivial rfl ?_
    refine .q (op_bin64 rfl rfl rfl) trivial rfl ?_
    refine .q (op_move rfl) trivial rfl ?_
    refine .q (op_move rfl) trivial rfl ?_
    refine .q (op_move rfl) trivial rfl ?_
    refine .q (op_mulI rfl rfl ⟨by omega, by omega⟩) trivial rfl ?_
    refine .as (.i64 ((4 * j : Nat) : Int)) (congrArg AV.i64 (by omega)) ?_
    refine .q (op_move rfl) trivial rfl ?_
    refine .q (op_addI rfl rfl ⟨by omega, by omega⟩) trivial rfl ?_
    refine .q (op_index_str Tryz.underlying9 rfl rfl (i := 4 * j + i) (by omega) (by omega)) trivial rfl ?_
    refine .q (op_conv Tryz.underlying5 Tryz.underlying25 rfl rfl) trivial rfl ?_
    refine .q (op_bin64 rfl rfl rfl) trivial rfl ?_
    refine .q (op_assign rfl) trivial rfl ?_
    refine .nil ?_
    show Ev _ _ _ _ _
    refine .region ?_
    refine .q (op_move rfl) trivial rfl ?_
    refine .q (op_addI rfl rfl ⟨by omega, by omega⟩) trivial rfl ?_
    refine .q (op_assign rfl) trivial rfl ?_
    refine .nil ?_
    exact ⟨⟨i + 1, by omega⟩, by show 4 - (i + 1) < 4 - i; omega, StLe.mk [(1000, 1000)] rfl rfl ⟨⟨_, rfl, by first | rfl | (simp only [AV.ren]; congr 1; omega), rfl⟩, ⟨_, rfl, by first | rfl | (simp only [AV.ren]; congr 1; omega), rfl⟩, ⟨_, rfl, by first | rfl | (simp only [AV.ren]; congr 1; omega), rfl⟩, ⟨_, rfl, by first | rfl | (simp only [AV.ren]; congr 1; omega), rfl⟩, ⟨_, rfl, by first | rfl | (simp only [AV.ren]; congr 1; omega), rfl⟩, ⟨_, rfl, by first | rfl | (simp only [AV.ren]; congr 1; omega), rfl⟩, ⟨_, rfl, by first | rfl | (simp only [AV.ren]; congr 1; omega), rfl⟩, ⟨_, rfl, by (simp only [AV.ren, rbN]; rfl), rfl⟩, ⟨_, rfl, by first | rfl | (simp only [AV.ren]; congr 1; omega), rfl⟩, trivial⟩ ⟨⟨_, _, rfl, rfl, by first | rfl | (simp only [AV.ren]; congr 1; omega), rfl, id, rfl⟩, ⟨_, _, rfl, rfl, by first | rfl | (simp only [AV.ren]; congr 1; omega), rfl, id, rfl⟩, trivial⟩⟩
   ·simp only [decide_eq_false_iff_not] at hc40
    refine .exit ?_
    show Ev _ _ _ _ _
    have ei : i = 4 := by omega
    refine Ev.weak (st2 := ⟨[(0, .sl 500 0 8 1), (1, .str bs), (2, .i64 32), (7, .i64 64), (8, .i64 4), (9, .sl 1000 0 j 1), (10, .i64 ((j : Nat) : Int)), (11, .u64 (rbN bs (4 * j) (4))), (12, .i64 (((4) : Nat) : Int))], [(500, some ⟨.agg64 (stR h), e, false⟩), (1000, some ⟨.agg64 (rsch32 bs j), 25, true⟩)], 1008⟩) (StLe.mk [(1000, 1000)] rfl rfl ⟨⟨_, rfl, by first | (simp only [AV.ren]; done) | (simp only [AV.ren]; rw [ei]; done) | rfl, rfl⟩, ⟨_, rfl, by first | (simp only [AV.ren]; done) | (simp only [AV.ren]; rw [ei]; done) | rfl, rfl⟩, ⟨_, rfl, by first | (simp only [AV.ren]; done) | (simp only [AV.ren]; rw [ei]; done) | rfl, rfl⟩, ⟨_, rfl, by first | (simp only [AV.ren]; done) | (simp only [AV.ren]; rw [ei]; done) | rfl, rfl⟩, ⟨_, rfl, by first | (simp only [AV.ren]; done) | (simp only [AV.ren]; rw [ei]; done) | rfl, rfl⟩, ⟨_, rfl, by first | (simp only [AV.ren]; done) | (simp only [AV.ren]; rw [ei]; done) | rfl, rfl⟩, ⟨_, rfl, by first | (simp only [AV.ren]; done) | (simp only [AV.ren]; rw [ei]; done) | rfl, rfl⟩, ⟨_, rfl, by first | (simp only [AV.ren]; done) | (simp only [AV.ren]; rw [ei]; done) | rfl, rfl⟩, ⟨_, rfl, by first | (simp only [AV.ren]; done) | (simp only [AV.ren]; rw [ei]; done) | rfl, rfl⟩, trivial⟩ ⟨⟨_, _, rfl, rfl, by first | (simp only [AV.ren]; done) | (simp only [AV.ren]; rw [ei]; done) | rfl, rfl, id, rfl⟩, ⟨_, _, rfl, rfl, by first | (simp only [AV.ren]; done) | (simp only [AV.ren]; rw [ei]; done) | rfl, rfl, id, rfl⟩, trivial⟩) ?_
    refine .region ?_
    refine .q (op_move rfl) trivial rfl ?_
    refine .q (op_move rfl) trivial rfl ?_
    refine .q (op_move rfl) trivial rfl ?_
    refine .q (op_call (U := []) [] [] (rcut_ev _ 32 (.inl rfl)) Tryz.func169 (by kernel_rfl) rfl rfl rfl (⟨⟨_, rfl, rfl, rfl⟩, ⟨_, rfl, rfl, rfl⟩, trivial⟩) (trivial) (trivial) (trivial) rfl) trivial rfl ?_
    refine .a (ap_build (us := [_]) (c := .agg64 [_]) Tryz.underlying203 inf25 rfl (by decide) (by decide) ⟨rfl, rfl, rfl, trivial⟩ rfl) trivial rfl ?_
    refine .a (ap_cat Tryz.underlying203 inf25 rfl rfl rfl rfl (by first | (simp only [AV.len]; done) | (simp only [AV.len]; omega) | omega) rfl rfl (by first | (simp only [AV.len, List.length_singleton]; done) | (simp only [AV.len]; omega) | omega) rfl (by first | (simp only [AV.len, List.length_singleton]; done) | (simp only [AV.len]; omega) | omega)) trivial rfl ?_
    refine .q (op_assign rfl) trivial rfl ?_
    refine .nil ?_
    show Ev _ _ _ _ _
    refine .region ?_
    refine .q (op_move rfl) trivial rfl ?_
    refine .q (op_addI rfl rfl ⟨by omega, by omega⟩) trivial rfl ?_
    refine .q (op_assign rfl) trivial rfl ?_
    refine .nil ?_
    exact ⟨⟨j + 1, by omega⟩, by show 64 - (j + 1) < 64 - j; omega, StLe.mk [(1000, 1016)] rfl rfl ⟨⟨_, rfl, by first | rfl | (simp only [AV.ren]; congr 1; omega), rfl⟩, ⟨_, rfl, by first | rfl | (simp only [AV.ren]; congr 1; omega), rfl⟩, ⟨_, rfl, by first | rfl | (simp only [AV.ren]; congr 1; omega), rfl⟩, ⟨_, rfl, by first | rfl | (simp only [AV.ren]; congr 1; omega), rfl⟩, ⟨_, rfl, by first | rfl | (simp only [AV.ren]; congr 1; omega), rfl⟩, ⟨_, rfl, by first | rfl | (simp only [AV.ren]; congr 1; omega), rfl⟩, ⟨_, rfl, by first | rfl | (simp only [AV.ren]; congr 1; omega), rfl⟩, trivial⟩ ⟨⟨_, _, rfl, rfl, by first | rfl | (simp only [AV.ren]; congr 1; omega), rfl, id, rfl⟩, ⟨_, _, rfl, rfl, by (simp only [AV.ren, rsch_lt bs hb j (by omega)]), rfl, id, rfl⟩, trivial⟩⟩
  ·simp only [decide_eq_false_iff_not] at hc37
   refine .seq ?_
   refine .region ?_
   refine .q (op_move rfl) trivial rfl ?_
   refine .q (op_cmpI rfl rfl rfl) trivial rfl ?_
   refine .nil ?_
   show Ev _ _ _ _ _
   refine .cond_true rfl (rfl) ?_
   refine .drawn [[], [], [1], [0, 1, 2], [0, 1, 2, 3], [0, 1, 2, 3, 4], [], [], [7], [6, 7, 8], [6, 7, 8, 9], [0, 1, 2, 3, 4, 5, 6, 7, 8, 9, 10], [], [], [13], [12, 13, 14], [12, 13, 14, 15], [0, 1, 2, 3, 4, 5, 12, 13, 14, 15, 16], [0, 1, 2, 3, 4, 5, 6, 7, 8, 9, 10, 11, 12, 13, 14, 15, 16, 17], [], [], [20], [19, 20, 21], [19, 20, 21, 22], [0, 1, 2, 3, 4, 5, 6, 7, 8, 9, 10, 11, 12, 13, 14, 15, 16, 17, 18, 19, 20, 21, 22, 23], [0, 1, 2, 3, 4, 5, 6, 7, 8, 9, 10, 11, 12, 13, 14, 15, 16, 17, 18, 19, 20, 21, 22, 23, 24]] [4, 5, 10, 16, 17, 23] [] (by kernel_rfl) (by kernel_rfl) rfl ?_
   show DK _ [0, 1, 2, 3, 4, 5, 6, 7, 8, 9, 10, 11, 12, 13, 14, 15, 16, 17, 18, 19, 20, 21, 22, 23, 24, 25] _ _ _
   refine .q rfl (op_move rfl) trivial ?_
   refine .q rfl (op_move rfl) trivial ?_
   refine .q rfl (op_subI rfl rfl ⟨by omega, by omega⟩) trivial ?_
   refine .q rfl (ap_idx0 Tryz.underlying203 inf25.sz rfl rfl (i := j - 2) (by omega) (by omega)) trivial ?_
   refine .q rfl (op_load Tryz.underlying25 rfl rfl rfl rfl (by show j - 2 < (rsch32 bs j).length; omega)) trivial ?_
   refine .q rfl (op_call (U := []) [] [] (rthree_t _ 17 19 10 32 (by decide) (by decide) (by decide) (by decide) (by decide) (by decide) (.inl rfl)) Tryz.func168 (by kernel_rfl) rfl rfl rfl (⟨⟨_, rfl, rfl, rfl⟩, ⟨_, rfl, rfl, rfl⟩, ⟨_, rfl, rfl, rfl⟩, ⟨_, rfl, rfl, rfl⟩, ⟨_, rfl, rfl, rfl⟩, ⟨_, rfl, rfl, rfl⟩, trivial⟩) (trivial) (trivial) (trivial) rfl) trivial ?_
   refine .q rfl (op_move rfl) trivial ?_
   refine .q rfl (op_move rfl) trivial ?_
   refine .q rfl (op_subI rfl rfl ⟨by omega, by omega⟩) trivial ?_
   refine .q rfl (ap_idx0 Tryz.underlying203 inf25.sz rfl rfl (i := j - 7) (by omega) (by omega)) trivial ?_
   refine .q rfl (op_load Tryz.underlying25 rfl rfl rfl rfl (by show j - 7 < (rsch32 bs j).length; omega)) trivial ?_
   refine .q rfl (op_bin64 rfl rfl rfl) trivial ?_
   refine .q rfl (op_move rfl) trivial ?_
   refine .q rfl (op_move rfl) trivial ?_
   refine .q rfl (op_subI rfl rfl ⟨by omega, by omega⟩) trivial ?_
   refine .q rfl (ap_idx0 Tryz.underlying203 inf25.sz rfl rfl (i := j - 15) (by omega) (by omega)) trivial ?_
   refine .q rfl (op_load Tryz.underlying25 rfl rfl rfl rfl (by show j - 15 < (rsch32 bs j).length; omega)) trivial ?_
   refine .q rfl (op_call (U := []) [] [] (rthree_t _ 7 18 3 32 (by decide) (by decide) (by decide) (by decide) (by decide) (by decide) (.inl rfl)) Tryz.func168 (by kernel_rfl) rfl rfl rfl (⟨⟨_, rfl, rfl, rfl⟩, ⟨_, rfl, rfl, rfl⟩, ⟨_, rfl, rfl, rfl⟩, ⟨_, rfl, rfl, rfl⟩, ⟨_, rfl, rfl, rfl⟩, ⟨_, rfl, rfl, rfl⟩, trivial⟩) (trivial) (trivial) (trivial) rfl) trivial ?_
   refine .q rfl (op_bin64 rfl rfl rfl) trivial ?_
   refine .q rfl (op_move rfl) trivial ?_
   refine .q rfl (op_move rfl) trivial ?_
   refine .q rfl (op_subI rfl rfl ⟨by omega, by omega⟩) trivial ?_
   refine .q rfl (ap_idx0 Tryz.underlying203 inf25.sz rfl rfl (i := j - 16) (by omega) (by omega)) trivial ?_
   refine .q rfl (op_load Tryz.underlying25 rfl rfl rfl rfl (by show j - 16 < (rsch32 bs j).length; omega)) trivial ?_
   refine .q rfl (op_bin64 rfl rfl rfl) trivial ?_
   refine .as (.u64 (rnext32 (rsch32 bs j) j)) rfl ?_
   refine .q rfl (op_assign rfl) trivial ?_
   refine .nil ?_
   show Ev _ _ _ _ _
   refine .region ?_
   refine .q (op_move rfl) trivial rfl ?_
   refine .q (op_move rfl) trivial rfl ?_
   refine .q (op_move rfl) trivial rfl ?_
   refine .q (op_call (U := []) [] [] (rcut_ev _ 32 (.inl rfl)) Tryz.func169 (by kernel_rfl) rfl rfl rfl (⟨⟨_, rfl, rfl, rfl⟩, ⟨_, rfl, rfl, rfl⟩, trivial⟩) (trivial) (trivial) (trivial) rfl) trivial rfl ?_
   refine .a (ap_build (us := [_]) (c := .agg64 [_]) Tryz.underlying203 inf25 rfl (by decide) (by decide) ⟨rfl, rfl, rfl, trivial⟩ rfl) trivial rfl ?_
   refine .a (ap_cat Tryz.underlying203 inf25 rfl rfl rfl rfl (by first | (simp only [AV.len]; done) | (simp only [AV.len]; omega) | omega) rfl rfl (by first | (simp only [AV.len, List.length_singleton]; done) | (simp only [AV.len]; omega) | omega) rfl (by first | (simp only [AV.len, List.length_singleton]; done) | (simp only [AV.len]; omega) | omega)) trivial rfl ?_
   refine .q (op_assign rfl) trivial rfl ?_
   refine .nil ?_
   show Ev _ _ _ _ _
   refine .region ?_
   refine .q (op_move rfl) trivial rfl ?_
   refine .q (op_addI rfl rfl ⟨by omega, by omega⟩) trivial rfl ?_
   refine .q (op_assign rfl) trivial rfl ?_
   refine .nil ?_
   exact ⟨⟨j + 1, by omega⟩, by show 64 - (j + 1) < 64 - j; omega, StLe.mk [(1000, 1224)] rfl rfl ⟨⟨_, rfl, by first | rfl | (simp only [AV.ren]; congr 1; omega), rfl⟩, ⟨_, rfl, by first | rfl | (simp only [AV.ren]; congr 1; omega), rfl⟩, ⟨_, rfl, by first | rfl | (simp only [AV.ren]; congr 1; omega), rfl⟩, ⟨_, rfl, by first | rfl | (simp only [AV.ren]; congr 1; omega), rfl⟩, ⟨_, rfl, by first | rfl | (simp only [AV.ren]; congr 1; omega), rfl⟩, ⟨_, rfl, by first | rfl | (simp only [AV.ren]; congr 1; omega), rfl⟩, ⟨_, rfl, by first | rfl | (simp only [AV.ren]; congr 1; omega), rfl⟩, trivial⟩ ⟨⟨_, _, rfl, rfl, by first | rfl | (simp only [AV.ren]; congr 1; omega), rfl, id, rfl⟩, ⟨_, _, rfl, rfl, by (simp only [AV.ren, rsch_ge bs j (by omega)]), rfl, id, rfl⟩, trivial⟩⟩
 ·simp only [decide_eq_false_iff_not] at hc33
  refine .exit ?_
  show Ev _ _ _ _ _
  have ej : j = 64 := by omega
  refine Ev.weak (st2 := ⟨[(0, .sl 500 0 8 1), (1, .str bs), (2, .i64 32), (7, .i64 64), (8, .i64 4), (9, .sl 1000 0 (64) 1), (10, .i64 (((64) : Nat) : Int))], [(500, some ⟨.agg64 (stR h), e, false⟩), (1000, some ⟨.agg64 (rsch32 bs (64)), 25, true⟩)], 1008⟩) (StLe.mk [(1000, 1000)] rfl rfl ⟨⟨_, rfl, by first | (simp only [AV.ren]; done) | (simp only [AV.ren]; rw [ej]; done) | rfl, rfl⟩, ⟨_, rfl, by first | (simp only [AV.ren]; done) | (simp only [AV.ren]; rw [ej]; done) | rfl, rfl⟩, ⟨_, rfl, by first | (simp only [AV.ren]; done) | (simp only [AV.ren]; rw [ej]; done) | rfl, rfl⟩, ⟨_, rfl, by first | (simp only [AV.ren]; done) | (simp only [AV.ren]; rw [ej]; done) | rfl, rfl⟩, ⟨_, rfl, by first | (simp only [AV.ren]; done) | (simp only [AV.ren]; rw [ej]; done) | rfl, rfl⟩, ⟨_, rfl, by (show AV.sl 1000 0 j 1 = AV.sl 1000 0 64 1; rw [ej]), rfl⟩, ⟨_, rfl, by first | (simp only [AV.ren]; done) | (simp only [AV.ren]; rw [ej]; done) | rfl, rfl⟩, trivial⟩ ⟨⟨_, _, rfl, rfl, by first | (simp only [AV.ren]; done) | (simp only [AV.ren]; rw [ej]; done) | rfl, rfl, id, rfl⟩, ⟨_, _, rfl, rfl, by first | (simp only [AV.ren]; done) | (simp only [AV.ren]; rw [ej]; done) | rfl, rfl, id, rfl⟩, trivial⟩) ?_
  refine .seq ?_
  refine .region ?_
  refine .a (ap_build0 (z := 1) (c := .agg64 []) Tryz.underlying203 inf25 rfl) trivial rfl ?_
  refine .q (op_move rfl) trivial rfl ?_
  refine .a (ap_cat Tryz.underlying203 inf25 rfl rfl rfl rfl (by first | rfl | (show 0 + 8 ≤ 10000000000; decide)) rfl rfl (by first | rfl | (show 0 + 8 ≤ 10000000000; decide)) rfl (by first | rfl | (show 0 + 8 ≤ 10000000000; decide))) trivial rfl ?_
  refine .q (op_assign rfl) trivial rfl ?_
  refine .nil ?_
  show Ev _ _ _ _ _
  refine .seq ?_
  refine .seq ?_
  refine .region ?_
  refine .q (op_assign rfl) trivial rfl ?_
  refine .nil ?_
  show Ev _ _ _ _ _
  refine .block ?_
  refine Ev.loop (ι := { q : Nat // q ≤ 64 }) (fun q => ⟨[(0, .sl 500 0 8 1), (2, .i64 32), (7, .i64 64), (9, .sl 1000 0 64 1), (13, .sl 1016 0 8 1), (14, .i64 ((q.1 : Nat) : Int))], [(500, some ⟨.agg64 (stR h), e, false⟩), (1000, some ⟨.agg64 R, 25, true⟩), (1016, some ⟨.agg64 (stR (rrounds32 R h q.1)), 25, true⟩)], 1024⟩) (fun q => 64 - q.1) ⟨0, Nat.zero_le _⟩ (StLe.mk [(1000, 1000), (1016, 1016)] rfl rfl ⟨⟨_, rfl, by first | rfl | (simp only [AV.ren]; congr 1; omega), rfl⟩, ⟨_, rfl, by first | rfl | (simp only [AV.ren]; congr 1; omega), rfl⟩, ⟨_, rfl, by first | rfl | (simp only [AV.ren]; congr 1; omega), rfl⟩, ⟨_, rfl, by first | rfl | (simp only [AV.ren]; congr 1; omega), rfl⟩, ⟨_, rfl, by first | rfl | (simp only [AV.ren]; congr 1; omega), rfl⟩, ⟨_, rfl, by first | rfl | (simp only [AV.ren]; congr 1; omega), rfl⟩, trivial⟩ ⟨⟨_, _, rfl, rfl, by first | rfl | (simp only [AV.ren]; congr 1; omega), rfl, id, rfl⟩, ⟨_, _, rfl, rfl, by (simp only [AV.ren]; rw [hR]), rfl, id, rfl⟩, ⟨_, _, rfl, rfl, by first | rfl | (simp only [AV.ren]; congr 1; omega), rfl, id, rfl⟩, trivial⟩) ?_
  rintro ⟨j, hj⟩
  dsimp only
  try simp only at hj
  refine .seq ?_
  refine .seq ?_
  refine .region ?_
  refine .q (op_move rfl) trivial rfl ?_
  refine .q (op_move rfl) trivial rfl ?_
  refine .q (op_cmpI rfl rfl rfl) trivial rfl ?_
  refine .nil ?_
  show Ev _ _ _ _ _
  refine .cond rfl (fun hc117 => ?_) (fun hc117 => ?_)
  ·simp only [decide_eq_true_eq] at hc117
   refine .skip ?_
   show Ev _ _ _ _ _
   refine .seq ?_
   refine .block ?_
   refine .seq ?_
   refine .drawn [[], [0], [0, 1], [], [3], [3, 4], [], [6], [6, 7], [], [9], [9, 10], [], [12], [12, 13], [], [15], [15, 16], [0, 1, 2], [0, 1, 2, 3, 4, 5, 18], [0, 1, 2, 3, 4, 5, 6, 7, 8, 18, 19], [0, 1, 2, 3, 4, 5, 6, 7, 8, 9, 10, 11, 18, 19, 20], [0, 1, 2, 3, 4, 5, 6, 7, 8, 9, 10, 11, 12, 13, 14, 18, 19, 20, 21], [0, 1, 2, 3, 4, 5, 6, 7, 8, 9, 10, 11, 12, 13, 14, 15, 16, 17, 18, 19, 20, 21, 22]] [2, 5, 8, 11, 14, 17] [] (by kernel_rfl) (by kernel_rfl) rfl ?_
   show DK _ [0, 1, 2, 3, 4, 5, 6, 7, 8, 9, 10, 11, 12, 13, 14, 15, 16, 17, 18, 19, 20, 21, 22, 23] _ _ _
   refine .q rfl (op_move rfl) trivial ?_
   refine .q rfl (ap_idx0 Tryz.underlying203 inf25.sz rfl rfl (i := 0) rfl (by show 0 < 8; decide)) trivial ?_
   refine .q rfl (op_load Tryz.underlying25 rfl rfl rfl rfl (by show 0 < 8; decide)) trivial ?_
   refine .as (.u64 (rrounds32 R h j).v0) rfl ?_
   refine .q rfl (op_move rfl) trivial ?_
   refine .q rfl (ap_idx0 Tryz.underlying203 inf25.sz rfl rfl (i := 1) rfl (by show 1 < 8; decide)) trivial ?_
   refine .q rfl (op_load Tryz.underlying25 rfl rfl rfl rfl (by show 1 < 8; decide)) trivial ?_
   refine .as (.u64 (rrounds32 R h j).v1) rfl ?_
   refine .q rfl (op_move rfl) trivial ?_
   refine .q rfl (ap_idx0 Tryz.underlying203 inf25.sz rfl rfl (i := 2) rfl (by show 2 < 8; decide)) trivial ?_
   refine .q rfl (op_load Tryz.underlying25 rfl rfl rfl rfl (by show 2 < 8; decide)) trivial ?_
   refine .as (.u64 (rrounds32 R h j).v2) rfl ?_
   refine .q rfl (op_move rfl) trivial ?_
   refine .q rfl (ap_idx0 Tryz.underlying203 inf25.sz rfl rfl (i := 4) rfl (by show 4 < 8; decide)) trivial ?_
   refine .q rfl (op_load Tryz.underlying25 rfl rfl rfl rfl (by show 4 < 8; decide)) trivial ?_
   refine .as (.u64 (rrounds32 R h j).v4) rfl ?_
   refine .q rfl (op_move rfl) trivial ?_
   refine .q rfl (ap_idx0 Tryz.underlying203 inf25.sz rfl rfl (i := 5) rfl (by show 5 < 8; decide)) trivial ?_
   refine .q rfl (op_load Tryz.underlying25 rfl rfl rfl rfl (by show 5 < 8; decide)) trivial ?_
   refine .as (.u64 (rrounds32 R h j).v5) rfl ?_
   refine .q rfl (op_move rfl) trivial ?_
   refine .q rfl (ap_idx0 Tryz.underlying203 inf25.sz rfl rfl (i := 6) rfl (by show 6 < 8; decide)) trivial ?_
   refine .q rfl (op_load Tryz.underlying25 rfl rfl rfl rfl (by show 6 < 8; decide)) trivial ?_
   refine .as (.u64 (rrounds32 R h j).v6) rfl ?_
   refine .q rfl (op_assign rfl) trivial ?_
   refine .q rfl (op_assign rfl) trivial ?_
   refine .q rfl (op_assign rfl) trivial ?_
   refine .q rfl (op_assign rfl) trivial ?_
   refine .q rfl (op_assign rfl) trivial ?_
   refine .q rfl (op_assign rfl) trivial ?_
   refine .nil ?_
   show Ev _ _ _ _ _
   refine .seq ?_
   refine .region ?_
   refine .q (op_move rfl) trivial rfl ?_
   refine .q (op_call (U := []) [] [] (rthree_f _ 28 34 39 64 (by decide) (by decide) (by decide) (by decide) (by decide) (by decide) (.inr rfl)) Tryz.func168 (by kernel_rfl) rfl rfl rfl (⟨⟨_, rfl, rfl, rfl⟩, ⟨_, rfl, rfl, rfl⟩, ⟨_, rfl, rfl, rfl⟩, ⟨_, rfl, rfl, rfl⟩, ⟨_, rfl, rfl, rfl⟩, ⟨_, rfl, rfl, rfl⟩, trivial⟩) (trivial) (trivial) (trivial) rfl) trivial rfl ?_
   refine .q (op_assign rfl) trivial rfl ?_
   refine .nil ?_
   show Ev _ _ _ _ _
   refine .seq ?_
   refine .region ?_
   refine .q (op_move rfl) trivial rfl ?_
   refine .q (op_call (U := []) [] [] (rthree_f _ 14 18 41 64 (by decide) (by decide) (by decide) (by decide) (by decide) (by decide) (.inr rfl)) Tryz.func168 (by kernel_rfl) rfl rfl rfl (⟨⟨_, rfl, rfl, rfl⟩, ⟨_, rfl, rfl, rfl⟩, ⟨_, rfl, rfl, rfl⟩, ⟨_, rfl, rfl, rfl⟩, ⟨_, rfl, rfl, rfl⟩, ⟨_, rfl, rfl, rfl⟩, trivial⟩) (trivial) (trivial) (trivial) rfl) trivial rfl ?_
   refine .q (op_assign rfl) trivial rfl ?_
   refine .nil ?_
   show Ev _ _ _ _ _
   refine .seq ?_
   refine .region ?_
   refine .q (op_move rfl) trivial rfl ?_
   refine .q (op_call (U := []) [] [] (rk_ev j (by omega)) Tryz.func170 (by kernel_rfl) rfl rfl rfl (⟨⟨_, rfl, rfl, rfl⟩, trivial⟩) (trivial) (trivial) (trivial) rfl) trivial rfl ?_
   refine .q (op_assign rfl) trivial rfl ?_
   refine .nil ?_
   show Ev _ _ _ _ _
   refine .seq ?_
   refine .seq ?_
   refine .region ?_
   refine .q (op_move rfl) trivial rfl ?_
   refine .q (op_cmpI rfl rfl rfl) trivial rfl ?_
   refine .nil ?_
   show Ev _ _ _ _ _
   refine .cond_true rfl (rfl) ?_
   refine .seq ?_
   refine .region ?_
   refine .q (op_move rfl) trivial rfl ?_
   refine .q (op_call (U := []) [] [] (rthree_f _ 2 13 22 32 (by decide) (by decide) (by decide) (by decide) (by decide) (by decide) (.inl rfl)) Tryz.func168 (by kernel_rfl) rfl rfl rfl (⟨⟨_, rfl, rfl, rfl⟩, ⟨_, rfl, rfl, rfl⟩, ⟨_, rfl, rfl, rfl⟩, ⟨_, rfl, rfl, rfl⟩, ⟨_, rfl, rfl, rfl⟩, ⟨_, rfl, rfl, rfl⟩, trivial⟩) (trivial) (trivial) (trivial) rfl) trivial rfl ?_
   refine .q (op_assign rfl) trivial rfl ?_
   refine .nil ?_
   show Ev _ _ _ _ _
   refine .seq ?_
   refine .region ?_
   refine .q (op_move rfl) trivial rfl ?_
   refine .q (op_call (U := []) [] [] (rthree_f _ 6 11 25 32 (by decide) (by decide) (by decide) (by decide) (by decide) (by decide) (.inl rfl)) Tryz.func168 (by kernel_rfl) rfl rfl rfl (⟨⟨_, rfl, rfl, rfl⟩, ⟨_, rfl, rfl, rfl⟩, ⟨_, rfl, rfl, rfl⟩, ⟨_, rfl, rfl, rfl⟩, ⟨_, rfl, rfl, rfl⟩, ⟨_, rfl, rfl, rfl⟩, trivial⟩) (trivial) (trivial) (trivial) rfl) trivial rfl ?_
   refine .q (op_assign rfl) trivial rfl ?_
   refine .nil ?_
   show Ev _ _ _ _ _
   refine .region ?_
   refine .q (op_move rfl) trivial rfl ?_
   refine .q (op_quo64 rfl rfl (by decide)) trivial rfl ?_
   refine .q (op_assign rfl) trivial rfl ?_
   refine .nil ?_
   show Ev _ _ _ _ _
   refine .seq ?_
   refine .drawn [[], [0], [0, 1], [], [0, 1, 2, 3], [], [], [5, 6], [], [8], [], [8, 9, 10], [5, 6, 7, 8, 9, 10, 11], [0, 1, 2, 3, 4, 5, 6, 7, 8, 9, 10, 11, 12], [], [0, 1, 2, 3, 4, 5, 6, 7, 8, 9, 10, 11, 12, 13, 14], [], [], [16, 17], [16, 17, 18], [0, 1, 2, 3, 4, 5, 6, 7, 8, 9, 10, 11, 12, 13, 14, 15, 16, 17, 18, 19], [], [0, 1, 2, 3, 4, 5, 6, 7, 8, 9, 10, 11, 12, 13, 14, 15, 16, 17, 18, 19, 20, 21], [0, 1, 2, 3, 4, 5, 6, 7, 8, 9, 10, 11, 12, 13, 14, 15, 16, 17, 18, 19, 20, 21, 22]] [2, 19, 22] [] (by kernel_rfl) (by kernel_rfl) rfl ?_
   show DK _ [0, 1, 2, 3, 4, 5, 6, 7, 8, 9, 10, 11, 12, 13, 14, 15, 16, 17, 18, 19, 20, 21, 22, 23] _ _ _
   refine .q rfl (op_move rfl) trivial ?_
   refine .q rfl (ap_idx0 Tryz.underlying203 inf25.sz rfl rfl (i := 7) rfl (by show 7 < 8; decide)) trivial ?_
   refine .q rfl (op_load Tryz.underlying25 rfl rfl rfl rfl (by show 7 < 8; decide)) trivial ?_
   refine .as (.u64 (rrounds32 R h j).v7) rfl ?_
   refine .q rfl (op_move rfl) trivial ?_
   refine .q rfl (op_bin64 rfl rfl rfl) trivial ?_
   refine .q rfl (op_move rfl) trivial ?_
   refine .q rfl (op_move rfl) trivial ?_
   refine .q rfl (op_bin64 rfl rfl rfl) trivial ?_
   refine .q rfl (op_move rfl) trivial ?_
   refine .q rfl (op_not64 rfl) trivial ?_
   refine .q rfl (op_move rfl) trivial ?_
   refine .q rfl (op_bin64 rfl rfl rfl) trivial ?_
   refine .q rfl (op_bin64 rfl rfl rfl) trivial ?_
   refine .q rfl (op_bin64 rfl rfl rfl) trivial ?_
   refine .q rfl (op_move rfl) trivial ?_
   refine .q rfl (op_bin64 rfl rfl rfl) trivial ?_
   refine .q rfl (op_move rfl) trivial ?_
   refine .q rfl (op_move rfl) trivial ?_
   refine .q rfl (ap_idx0 Tryz.underlying203 inf25.sz rfl rfl rfl (by omega)) trivial ?_
   refine .q rfl (op_load Tryz.underlying25 rfl rfl rfl rfl (by show j < R.length; omega)) trivial ?_
   refine .q rfl (op_bin64 rfl rfl rfl) trivial ?_
   refine .q rfl (op_move rfl) trivial ?_
   refine .q rfl (op_call (U := []) [] [] (rcut_ev _ 32 (.inl rfl)) Tryz.func169 (by kernel_rfl) rfl rfl rfl (⟨⟨_, rfl, rfl, rfl⟩, ⟨_, rfl, rfl, rfl⟩, trivial⟩) (trivial) (trivial) (trivial) rfl) trivial ?_
   refine .as (.u64 (rcut 32 ((rrounds32 R h j).v7 + rthree 32 (rrounds32 R h j).v4 6 11 25 false + ((rrounds32 R h j).v4 &&& (rrounds32 R h j).v5 ^^^ ~~~(rrounds32 R h j).v4 &&& (rrounds32 R h j).v6) + K512.getD j 0 / 4294967296 + R.getD j 0))) rfl ?_
   refine .q rfl (op_assign rfl) trivial ?_
   refine .nil ?_
   show Ev _ _ _ _ _
   refine .seq ?_
   refine .region ?_
   refine .q (op_move rfl) trivial rfl ?_
   refine .q (op_move rfl) trivial rfl ?_
   refine .q (op_move rfl) trivial rfl ?_
   refine .q (op_bin64 rfl rfl rfl) trivial rfl ?_
   refine .q (op_move rfl) trivial rfl ?_
   refine .q (op_move rfl) trivial rfl ?_
   refine .q (op_bin64 rfl rfl rfl) trivial rfl ?_
   refine .q (op_bin64 rfl rfl rfl) trivial rfl ?_
   refine .q (op_move rfl) trivial rfl ?_
   refine .q (op_move rfl) trivial rfl ?_
   refine .q (op_bin64 rfl rfl rfl) trivial rfl ?_
   refine .q (op_bin64 rfl rfl rfl) trivial rfl ?_
   refine .q (op_bin64 rfl rfl rfl) trivial rfl ?_
   refine .q (op_move rfl) trivial rfl ?_
   refine .q (op_call (U := []) [] [] (rcut_ev _ 32 (.inl rfl)) Tryz.func169 (by kernel_rfl) rfl rfl rfl (⟨⟨_, rfl, rfl, rfl⟩, ⟨_, rfl, rfl, rfl⟩, trivial⟩) (trivial) (trivial) (trivial) rfl) trivial rfl ?_
   refine .as (.u64 (rcut 32 (rthree 32 (rrounds32 R h j).v0 2 13 22 false + ((rrounds32 R h j).v0 &&& (rrounds32 R h j).v1 ^^^ (rrounds32 R h j).v0 &&& (rrounds32 R h j).v2 ^^^ (rrounds32 R h j).v1 &&& (rrounds32 R h j).v2)))) rfl ?_
   refine .q (op_assign rfl) trivial rfl ?_
   refine .nil ?_
   show Ev _ _ _ _ _
   refine .drawn [[], [], [0, 1], [], [0, 1, 2, 3], [], [], [], [], [8], [8, 9], [], [8, 9, 10, 11], [], [0, 1, 2, 3, 4, 8, 9, 10, 11, 12, 13], [], [], [], [0, 1, 2, 3, 4, 5, 6, 7, 8, 9, 10, 11, 12, 13, 14, 15, 16, 17], [0, 1, 2, 3, 4, 5, 6, 7, 8, 9, 10, 11, 12, 13, 14, 15, 16, 17, 18]] [4, 10, 14, 18] [] (by kernel_rfl) (by kernel_rfl) rfl ?_
   show DK _ [0, 1, 2, 3, 4, 5, 6, 7, 8, 9, 10, 11, 12, 13, 14, 15, 16, 17, 18, 19] _ _ _
   refine .q rfl (op_move rfl) trivial ?_
   refine .q rfl (op_move rfl) trivial ?_
   refine .q rfl (op_bin64 rfl rfl rfl) trivial ?_
   refine .q rfl (op_move rfl) trivial ?_
   refine .q rfl (op_call (U := []) [] [] (rcut_ev _ 32 (.inl rfl)) Tryz.func169 (by kernel_rfl) rfl rfl rfl (⟨⟨_, rfl, rfl, rfl⟩, ⟨_, rfl, rfl, rfl⟩, trivial⟩) (trivial) (trivial) (trivial) rfl) trivial ?_
   refine .q rfl (op_move rfl) trivial ?_
   refine .q rfl (op_move rfl) trivial ?_
   refine .q rfl (op_move rfl) trivial ?_
   refine .q rfl (op_move rfl) trivial ?_
   refine .q rfl (ap_idx0 Tryz.underlying203 inf25.sz rfl rfl (i := 3) rfl (by show 3 < 8; decide)) trivial ?_
   refine .q rfl (op_load Tryz.underlying25 rfl rfl rfl rfl (by show 3 < 8; decide)) trivial ?_
   refine .as (.u64 (rrounds32 R h j).v3) rfl ?_
   refine .q rfl (op_move rfl) trivial ?_
   refine .q rfl (op_bin64 rfl rfl rfl) trivial ?_
   refine .q rfl (op_move rfl) trivial ?_
   refine .q rfl (op_call (U := []) [] [] (rcut_ev _ 32 (.inl rfl)) Tryz.func169 (by kernel_rfl) rfl rfl rfl (⟨⟨_, rfl, rfl, rfl⟩, ⟨_, rfl, rfl, rfl⟩, trivial⟩) (trivial) (trivial) (trivial) rfl) trivial ?_
   refine .q rfl (op_move rfl) trivial ?_
   refine .q rfl (op_move rfl) trivial ?_
   refine .q rfl (op_move rfl) trivial ?_
   refine .a rfl (ap_build (us := [.u64 (rcut 32 ((rcut 32 ((rrounds32 R h j).v7 + rthree 32 (rrounds32 R h j).v4 6 11 25 false + ((rrounds32 R h j).v4 &&& (rrounds32 R h j).v5 ^^^ ~~~(rrounds32 R h j).v4 &&& (rrounds32 R h j).v6) + K512.getD j 0 / 4294967296 + R.getD j 0)) + (rcut 32 (rthree 32 (rrounds32 R h j).v0 2 13 22 false + ((rrounds32 R h j).v0 &&& (rrounds32 R h j).v1 ^^^ (rrounds32 R h j).v0 &&& (rrounds32 R h j).v2 ^^^ (rrounds32 R h j).v1 &&& (rrounds32 R h j).v2))))), .u64 ((rrounds32 R h j).v0), .u64 ((rrounds32 R h j).v1), .u64 ((rrounds32 R h j).v2), .u64 (rcut 32 ((rrounds32 R h j).v3 + (rcut 32 ((rrounds32 R h j).v7 + rthree 32 (rrounds32 R h j).v4 6 11 25 false + ((rrounds32 R h j).v4 &&& (rrounds32 R h j).v5 ^^^ ~~~(rrounds32 R h j).v4 &&& (rrounds32 R h j).v6) + K512.getD j 0 / 4294967296 + R.getD j 0)))), .u64 ((rrounds32 R h j).v4), .u64 ((rrounds32 R h j).v5), .u64 ((rrounds32 R h j).v6)]) (c := .agg64 [rcut 32 ((rcut 32 ((rrounds32 R h j).v7 + rthree 32 (rrounds32 R h j).v4 6 11 25 false + ((rrounds32 R h j).v4 &&& (rrounds32 R h j).v5 ^^^ ~~~(rrounds32 R h j).v4 &&& (rrounds32 R h j).v6) + K512.getD j 0 / 4294967296 + R.getD j 0)) + (rcut 32 (rthree 32 (rrounds32 R h j).v0 2 13 22 false + ((rrounds32 R h j).v0 &&& (rrounds32 R h j).v1 ^^^ (rrounds32 R h j).v0 &&& (rrounds32 R h j).v2 ^^^ (rrounds32 R h j).v1 &&& (rrounds32 R h j).v2)))), (rrounds32 R h j).v0, (rrounds32 R h j).v1, (rrounds32 R h j).v2, rcut 32 ((rrounds32 R h j).v3 + (rcut 32 ((rrounds32 R h j).v7 + rthree 32 (rrounds32 R h j).v4 6 11 25 false + ((rrounds32 R h j).v4 &&& (rrounds32 R h j).v5 ^^^ ~~~(rrounds32 R h j).v4 &&& (rrounds32 R h j).v6) + K512.getD j 0 / 4294967296 + R.getD j 0))), (rrounds32 R h j).v4, (rrounds32 R h j).v5, (rrounds32 R h j).v6]) Tryz.underlying203 inf25 rfl (by decide) (by decide) ⟨rfl, rfl, rfl, rfl, rfl, rfl, rfl, rfl, rfl, rfl, rfl, rfl, rfl, rfl, rfl, rfl, rfl, rfl, rfl, rfl, rfl, rfl, rfl, rfl, trivial⟩ rfl) trivial rfl rfl ?_
   refine .q rfl (op_assign rfl) trivial ?_
   refine .nil ?_
   show Ev _ _ _ _ _
   refine .region ?_
   refine .q (op_move rfl) trivial rfl ?_
   refine .q (op_addI rfl rfl ⟨by omega, by omega⟩) trivial rfl ?_
   refine .q (op_assign rfl) trivial rfl ?_
   refine .nil ?_
   exact ⟨⟨j + 1, by omega⟩, by show 64 - (j + 1) < 64 - j; omega, StLe.mk [(1000, 1000), (1016, 1552)] rfl rfl ⟨⟨_, rfl, by first | rfl | (simp only [AV.ren]; congr 1; omega), rfl⟩, ⟨_, rfl, by first | rfl | (simp only [AV.ren]; congr 1; omega), rfl⟩, ⟨_, rfl, by first | rfl | (simp only [AV.ren]; congr 1; omega), rfl⟩, ⟨_, rfl, by first | rfl | (simp only [AV.ren]; congr 1; omega), rfl⟩, ⟨_, rfl, by first | rfl | (simp only [AV.ren]; congr 1; omega), rfl⟩, ⟨_, rfl, by first | rfl | (simp only [AV.ren]; congr 1; omega), rfl⟩, trivial⟩ ⟨⟨_, _, rfl, rfl, by first | rfl | (simp only [AV.ren]; congr 1; omega), rfl, id, rfl⟩, ⟨_, _, rfl, rfl, by first | rfl | (simp only [AV.ren]; congr 1; omega), rfl, id, rfl⟩, ⟨_, _, rfl, rfl, by first | rfl | (simp only [AV.ren]; congr 1; omega), rfl, id, rfl⟩, trivial⟩⟩
  ·simp only [decide_eq_false_iff_not] at hc117
   refine .exit ?_
   show Ev _ _ _ _ _
   have ej : j = 64 := by omega
   refine Ev.weak (st2 := ⟨[(0, .sl 500 0 8 1), (2, .i64 32), (7, .i64 64), (9, .sl 1000 0 64 1), (13, .sl 1016 0 8 1), (14, .i64 (((64) : Nat) : Int))], [(500, some ⟨.agg64 (stR h), e, false⟩), (1000, some ⟨.agg64 R, 25, true⟩), (1016, some ⟨.agg64 (stR (rrounds32 R h (64))), 25, true⟩)], 1024⟩) (StLe.mk [(1000, 1000), (1016, 1016)] rfl rfl ⟨⟨_, rfl, by first | (simp only [AV.ren]; done) | (simp only [AV.ren]; rw [ej]; done) | rfl, rfl⟩, ⟨_, rfl, by first | (simp only [AV.ren]; done) | (simp only [AV.ren]; rw [ej]; done) | rfl, rfl⟩, ⟨_, rfl, by first | (simp only [AV.ren]; done) | (simp only [AV.ren]; rw [ej]; done) | rfl, rfl⟩, ⟨_, rfl, by first | (simp only [AV.ren]; done) | (simp only [AV.ren]; rw [ej]; done) | rfl, rfl⟩, ⟨_, rfl, by first | (simp only [AV.ren]; done) | (simp only [AV.ren]; rw [ej]; done) | rfl, rfl⟩, ⟨_, rfl, by first | (simp only [AV.ren]; done) | (simp only [AV.ren]; rw [ej]; done) | rfl, rfl⟩, trivial⟩ ⟨⟨_, _, rfl, rfl, by first | (simp only [AV.ren]; done) | (simp only [AV.ren]; rw [ej]; done) | rfl, rfl, id, rfl⟩, ⟨_, _, rfl, rfl, by first | (simp only [AV.ren]; done) | (simp only [AV.ren]; rw [ej]; done) | rfl, rfl, id, rfl⟩, ⟨_, _, rfl, rfl, by first | (simp only [AV.ren]; done) | (simp only [AV.ren]; rw [ej]; done) | rfl, rfl, id, rfl⟩, trivial⟩) ?_
   refine .seq ?_
   refine .region ?_
   refine .a (ap_build0 (z := 1) (c := .agg64 []) Tryz.underlying203 inf25 rfl) trivial rfl ?_
   refine .q (op_assign rfl) trivial rfl ?_
   refine .nil ?_
   show Ev _ _ _ _ _
   refine .seq ?_
   refine .seq ?_
   refine .region ?_
   refine .q (op_move rfl) trivial rfl ?_
   refine .q (op_len_sl Tryz.underlying203 rfl) trivial rfl ?_
   refine .q (op_move rfl) trivial rfl ?_
   refine .nil ?_
   show Ev _ _ _ _ _
   refine .block ?_
   refine Ev.loop (ι := { q : Nat // q ≤ 8 }) (fun q => ⟨[(0, .sl 500 0 8 1), (2, .i64 32), (13, .sl 1016 0 8 1), (26, .sl 1024 0 q.1 1), (211, .i64 8), (212, .i64 ((q.1 : Nat) : Int))], [(500, some ⟨.agg64 (stR h), e, false⟩), (1016, some ⟨.agg64 (stR r), 25, true⟩), (1024, some ⟨.agg64 (outR (stR h) (stR r) q.1), 25, true⟩)], 1032⟩) (fun q => 8 - q.1) ⟨0, Nat.zero_le _⟩ (StLe.mk [(1016, 1016), (1024, 1024)] rfl rfl ⟨⟨_, rfl, by first | rfl | (simp only [AV.ren]; congr 1; omega), rfl⟩, ⟨_, rfl, by first | rfl | (simp only [AV.ren]; congr 1; omega), rfl⟩, ⟨_, rfl, by first | rfl | (simp only [AV.ren]; congr 1; omega), rfl⟩, ⟨_, rfl, by first | rfl | (simp only [AV.ren]; congr 1; omega), rfl⟩, ⟨_, rfl, by first | rfl | (simp only [AV.ren]; congr 1; omega), rfl⟩, ⟨_, rfl, by first | rfl | (simp only [AV.ren]; congr 1; omega), rfl⟩, trivial⟩ ⟨⟨_, _, rfl, rfl, by first | rfl | (simp only [AV.ren]; congr 1; omega), rfl, id, rfl⟩, ⟨_, _, rfl, rfl, by (simp only [AV.ren]; rw [hr]), rfl, id, rfl⟩, ⟨_, _, rfl, rfl, by first | rfl | (simp only [AV.ren]; congr 1; omega), rfl, id, rfl⟩, trivial⟩) ?_
   rintro ⟨j, hj⟩
   dsimp only
   have hlo := length_outR (stR h) (stR r) j
   have hl8 : ∀ q : St64, (stR q).length = 8 := fun _ => rfl
   refine .seq ?_
   refine .region ?_
   refine .q (op_cmpI rfl rfl rfl) trivial rfl ?_
   refine .nil ?_
   show Ev _ _ _ _ _
   refine .seq ?_
   refine .cond rfl (fun hc213 => ?_) (fun hc213 => ?_)
   ·simp only [decide_eq_true_eq] at hc213
    refine .skip ?_
    show Ev _ _ _ _ _
    refine .seq ?_
    refine .block ?_
    refine .seq ?_
    refine .region ?_
    refine .q (op_move rfl) trivial rfl ?_
    refine .q (op_assign rfl) trivial rfl ?_
    refine .nil ?_
    show Ev _ _ _ _ _
    refine .drawn [[], [], [], [1, 2], [1, 2, 3], [], [], [5, 6], [5, 6, 7], [1, 2, 3, 4, 5, 6, 7, 8], [], [1, 2, 3, 4, 5, 6, 7, 8, 9, 10], [1, 2, 3, 4, 5, 6, 7, 8, 9, 10, 11], [0, 1, 2, 3, 4, 5, 6, 7, 8, 9, 10, 11, 12], [0, 1, 2, 3, 4, 5, 6, 7, 8, 9, 10, 11, 12, 13]] [4, 8, 11, 12, 13] [13] (by kernel_rfl) (by kernel_rfl) rfl ?_
    show DK _ [0, 1, 2, 3, 4, 5, 6, 7, 8, 9, 10, 11, 12, 13, 14] _ _ _
    refine .q rfl (op_move rfl) trivial ?_
    refine .q rfl (op_move rfl) trivial ?_
    refine .q rfl (op_move rfl) trivial ?_
    refine .q rfl (ap_idx0 Tryz.underlying203 inf25.sz rfl rfl rfl (by omega)) trivial ?_
    refine .q rfl (op_load Tryz.underlying25 rfl rfl rfl rfl (by show j < (stR h).length; rw [hl8]; omega)) trivial ?_
    refine .q rfl (op_move rfl) trivial ?_
    refine .q rfl (op_move rfl) trivial ?_
    refine .q rfl (ap_idx0 Tryz.underlying203 inf25.sz rfl rfl rfl (by omega)) trivial ?_
    refine .q rfl (op_load Tryz.underlying25 rfl rfl rfl rfl (by show j < (stR r).length; rw [hl8]; omega)) trivial ?_
    refine .q rfl (op_bin64 rfl rfl rfl) trivial ?_
    refine .q rfl (op_move rfl) trivial ?_
    refine .q rfl (op_call (U := []) [] [] (rcut_ev _ 32 (.inl rfl)) Tryz.func169 (by kernel_rfl) rfl rfl rfl (⟨⟨_, rfl, rfl, rfl⟩, ⟨_, rfl, rfl, rfl⟩, trivial⟩) (trivial) (trivial) (trivial) rfl) trivial ?_
    refine .as (.u64 (rcut 32 ((stR h).getD j 0 + (stR r).getD j 0))) rfl ?_
    refine .a rfl (ap_build (us := [.u64 (rcut 32 ((stR h).getD j 0 + (stR r).getD j 0))]) (c := .agg64 [rcut 32 ((stR h).getD j 0 + (stR r).getD j 0)]) Tryz.underlying203 inf25 rfl (by decide) (by decide) ⟨rfl, rfl, rfl, trivial⟩ rfl) trivial rfl rfl ?_
    refine .a rfl (ap_cat Tryz.underlying203 inf25 rfl rfl rfl rfl (by first | (simp only [AV.len]; done) | (simp only [AV.len]; omega) | omega) rfl rfl (by first | (simp only [AV.len, List.length_singleton]; done) | (simp only [AV.len]; omega) | omega) rfl (by first | (simp only [AV.len, List.length_singleton]; done) | (simp only [AV.len]; omega) | omega)) trivial rfl rfl ?_
    refine .q rfl (op_assign rfl) trivial ?_
    refine .nil ?_
    show Ev _ _ _ _ _
    refine .region ?_
    refine .q (op_addI rfl rfl ⟨by omega, by omega⟩) trivial rfl ?_
    refine .q (op_move rfl) trivial rfl ?_
    refine .nil ?_
    exact ⟨⟨j + 1, by omega⟩, by show 8 - (j + 1) < 8 - j; omega, StLe.mk [(1016, 1016), (1024, 1136)] rfl rfl ⟨⟨_, rfl, by first | rfl | (simp only [AV.ren]; congr 1; omega), rfl⟩, ⟨_, rfl, by first | rfl | (simp only [AV.ren]; congr 1; omega), rfl⟩, ⟨_, rfl, by first | rfl | (simp only [AV.ren]; congr 1; omega), rfl⟩, ⟨_, rfl, by first | rfl | (simp only [AV.ren]; congr 1; omega), rfl⟩, ⟨_, rfl, by first | rfl | (simp only [AV.ren]; congr 1; omega), rfl⟩, ⟨_, rfl, by first | rfl | (simp only [AV.ren]; congr 1; omega), rfl⟩, trivial⟩ ⟨⟨_, _, rfl, rfl, by first | rfl | (simp only [AV.ren]; congr 1; omega), rfl, id, rfl⟩, ⟨_, _, rfl, rfl, by first | rfl | (simp only [AV.ren]; congr 1; omega), rfl, id, rfl⟩, ⟨_, _, rfl, rfl, by first | rfl | (simp only [AV.ren]; congr 1; omega), rfl, id, rfl⟩, trivial⟩⟩
   ·simp only [decide_eq_false_iff_not] at hc213
    refine .exit ?_
    show Ev _ _ _ _ _
    have ej : j = 8 := by omega
    refine Ev.weak (st2 := ⟨[(0, .sl 500 0 8 1), (2, .i64 32), (13, .sl 1016 0 8 1), (26, .sl 1024 0 (8) 1), (211, .i64 8), (212, .i64 (((8) : Nat) : Int))], [(500, some ⟨.agg64 (stR h), e, false⟩), (1016, some ⟨.agg64 (stR r), 25, true⟩), (1024, some ⟨.agg64 (outR (stR h) (stR r) (8)), 25, true⟩)], 1032⟩) (StLe.mk [(1016, 1016), (1024, 1024)] rfl rfl ⟨⟨_, rfl, by first | (simp only [AV.ren]; done) | (simp only [AV.ren]; rw [ej]; done) | rfl, rfl⟩, ⟨_, rfl, by first | (simp only [AV.ren]; done) | (simp only [AV.ren]; rw [ej]; done) | rfl, rfl⟩, ⟨_, rfl, by first | (simp only [AV.ren]; done) | (simp only [AV.ren]; rw [ej]; done) | rfl, rfl⟩, ⟨_, rfl, by (show AV.sl 1024 0 j 1 = AV.sl 1024 0 8 1; rw [ej]), rfl⟩, ⟨_, rfl, by first | (simp only [AV.ren]; done) | (simp only [AV.ren]; rw [ej]; done) | rfl, rfl⟩, ⟨_, rfl, by first | (simp only [AV.ren]; done) | (simp only [AV.ren]; rw [ej]; done) | rfl, rfl⟩, trivial⟩ ⟨⟨_, _, rfl, rfl, by first | (simp only [AV.ren]; done) | (simp only [AV.ren]; rw [ej]; done) | rfl, rfl, id, rfl⟩, ⟨_, _, rfl, rfl, by first | (simp only [AV.ren]; done) | (simp only [AV.ren]; rw [ej]; done) | rfl, rfl, id, rfl⟩, ⟨_, _, rfl, rfl, by first | (simp only [AV.ren]; done) | (simp only [AV.ren]; rw [ej]; done) | rfl, rfl, id, rfl⟩, trivial⟩) ?_
    refine .seq ?_
    refine .region ?_
    refine .q (op_move rfl) trivial rfl ?_
    refine .q (op_assign rfl) trivial rfl ?_
    refine .nil ?_
    show Ev _ _ _ _ _
    refine .ret ?_
    show RetOk _ _ _ _ _ _ _
    have hX : outR (stR h) (stR r) 8 = stR (rblock32 h bs) := by rw [outR_add, ← hr, ← hR]; rfl
    exact ret1v rfl (.inl rfl) rfl rfl ⟨by rw [← hX]; rfl, trivial⟩
end Go.Proofs.YtdmlpblaelfdmaaGreatDoor
