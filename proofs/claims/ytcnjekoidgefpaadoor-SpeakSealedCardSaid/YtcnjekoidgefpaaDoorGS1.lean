/-
  Texts of this claim.
-/
import Derived.Test.YtcnjekoidgefpaaDoorGE
import Derived.Test.YtcnjekoidgefpaaDoorGS
namespace Go.Proofs.YtcnjekoidgefpaaDoor
open Go.RowKit
/-- The words of a state. -/
def stlq (s : St32) : List UInt32 := [s.v0, s.v1, s.v2, s.v3, s.v4, s.v5, s.v6, s.v7]
theorem stl_getq (s : St32) (i : Nat) (h : i < 8) : (stlq s).getD i 0 = stN32 s i := by
  match i, h with
  | 0, _ => rfl
  | 1, _ => rfl
  | 2, _ => rfl
  | 3, _ => rfl
  | 4, _ => rfl
  | 5, _ => rfl
  | 6, _ => rfl
  | 7, _ => rfl
  | i + 8, h => omega
theorem neg_andq (n : Nat) (h1 : 1 ≤ n) (h2 : n ≤ 31) : ofI64 (-(n : Int)) &&& UInt64.ofNat 31 = UInt64.ofNat (32 - n) := by
  apply UInt64.toNat_inj.1
  rw [UInt64.toNat_and, show (UInt64.ofNat 31).toNat = 2 ^ 5 - 1 from rfl, Nat.and_two_pow_sub_one_eq_mod, UInt64.toNat_ofNat_of_lt' (show 32 - n < 2 ^ 64 by omega)]
  unfold ofI64
  rw [UInt64.toNat_ofNat_of_lt' (by show _ < 18446744073709551616; omega)]
  omega
theorem sub_64q (n : Nat) (h1 : 1 ≤ n) (h2 : n ≤ 31) : UInt64.ofNat 32 - UInt64.ofNat (32 - n) = UInt64.ofNat n := by
  apply UInt64.toNat_inj.1
  rw [UInt64.toNat_sub, UInt64.toNat_ofNat_of_lt' (show 32 - n < 2 ^ 64 by omega), UInt64.toNat_ofNat_of_lt' (show n < 2 ^ 64 by omega), show (UInt64.ofNat 32).toNat = 32 from rfl]
  omega
/-- Bytes read as a word, the highest first. -/
def beNq (l : List UInt8) : Nat → UInt32
  | 0 => UInt32.ofNat 0
  | n + 1 => (beNq l n <<< UInt32.ofNat 8) ||| (l.getD n 0).toUInt32
theorem beN_takeq (l : List UInt8) (n : Nat) (h : n ≤ l.length) : beNq l n = be32z (l.take n) := by
  induction n with
  | zero => rfl
  | succ n ih =>
    have e : l.take (n + 1) = l.take n ++ [l.getD n 0] := by
      rw [List.take_succ_eq_append_getElem (by omega)]
      simp [List.getD_eq_getElem?_getD, show n < l.length by omega]
    rw [e, beNq, ih (by omega)]
    simp [be32z, List.foldl_append]
/-- A word written, the highest byte first. -/
def pbNq (l : List UInt8) (o m : Nat) (x : UInt32) : Nat → List UInt8
  | 0 => l
  | n + 1 => (pbNq l o m x n).set (o + (m - 1 - n)) (x >>> UInt32.ofNat (8 * n)).toUInt8
theorem length_pbNq (l : List UInt8) (o m : Nat) (x : UInt32) (n : Nat) : (pbNq l o m x n).length = l.length := by induction n with | zero => rfl | succ n ih => simp [pbNq, ih]
def schNq (l : List UInt32) : Nat → List UInt32
  | 0 => l
  | n + 1 => (schNq l n).set (n + 16) (sig1_32 ((schNq l n).getD (n + 14) 0) + (schNq l n).getD (n + 9) 0 + sig0_32 ((schNq l n).getD (n + 1) 0) + (schNq l n).getD n 0)
theorem length_schNq (l : List UInt32) (n : Nat) : (schNq l n).length = l.length := by induction n with | zero => rfl | succ n ih => simp [schNq, ih]
def wdNq (bs : List UInt8) : Nat → List UInt32
  | 0 => List.replicate 64 0
  | n + 1 => (wdNq bs n).set n (be32z ((bs.drop (4 * n)).take 4))
theorem length_wdNq (bs : List UInt8) (n : Nat) : (wdNq bs n).length = 64 := by induction n with | zero => rfl | succ n ih => simp [wdNq, ih]
theorem wd_wordsq (bs : List UInt8) (n : Nat) (h : n ≤ 64) : wdNq bs n = words32z bs n ++ List.replicate (64 - n) 0 := by
  induction n with
  | zero => simp [wdNq, words32z]
  | succ n ih =>
    have hl : (words32z bs n).length = n := by simp [words32z]
    rw [wdNq, ih (by omega), words32_succz, show 64 - n = (64 - (n + 1)) + 1 by omega, List.replicate_succ]
    have := set_at (words32z bs n) (List.replicate (64 - (n + 1)) (0 : UInt32)) 0 (be32z ((bs.drop (4 * n)).take 4))
    rw [hl] at this
    rw [this]; simp
theorem length_schedq (l : List UInt32) (n : Nat) : (sched32 l n).length = l.length + n := by
  induction n with
  | zero => rfl
  | succ n ih => simp [sched32, schedStep32, ih]; omega
theorem sch_schedq (l : List UInt32) (hl : l.length = 16) (m n : Nat) (h : n + m = 48) : schNq (l ++ List.replicate 48 0) n = sched32 l n ++ List.replicate m 0 := by
  induction n generalizing m with
  | zero => have : m = 48 := by omega
            subst this; rfl
  | succ n ih =>
    have hs := length_schedq l n
    have g : ∀ i, i < 16 + n → (sched32 l n ++ List.replicate (m + 1) (0 : UInt32)).getD i 0 = (sched32 l n).getD i 0 := fun i hi => by
      rw [List.getD_eq_getElem?_getD, List.getElem?_append_left (by omega), ← List.getD_eq_getElem?_getD]
    rw [schNq, ih (m + 1) (by omega), g _ (by omega), g _ (by omega), g _ (by omega), g _ (by omega), List.replicate_succ]
    have := set_at (sched32 l n) (List.replicate m (0 : UInt32)) 0 (sig1_32 ((sched32 l n).getD (n + 14) 0) + (sched32 l n).getD (n + 9) 0 + sig0_32 ((sched32 l n).getD (n + 1) 0) + (sched32 l n).getD n 0)
    rw [hs, hl, Nat.add_comm 16 n] at this
    rw [this]; simp [sched32, schedStep32]
theorem sched_allq (bs : List UInt8) : schNq (wdNq bs 16) 48 = sched32 (words32z bs 16) 48 := by
  have hl : (words32z bs 16).length = 16 := by simp [words32z]
  rw [wd_wordsq bs 16 (by omega), sch_schedq _ hl 0 48 rfl]; simp
/-- The sum of the state before a block and behind its rounds. -/
def adHq (h v : List UInt32) : Nat → List UInt32
  | 0 => h
  | n + 1 => (adHq h v n).set n ((adHq h v n).getD n 0 + v.getD n 0)
theorem length_adHq (h v : List UInt32) (n : Nat) : (adHq h v n).length = h.length := by induction n with | zero => rfl | succ n ih => simp [adHq, ih]
theorem adH_stlq (s r : St32) : adHq (stlq s) (stlq r) 8 = stlq (addSt32 s r) := by
  simp only [adHq, stlq, addSt32, List.set_cons_zero, List.set_cons_succ, List.getD_cons_zero, List.getD_cons_succ]
set_option maxRecDepth 100000 in
theorem rotl_evq (x : UInt32) (n : Nat) (h1 : 1 ≤ n) (h2 : n ≤ 31) : Meets Tryd.prog 164 [.u32 x, .i64 (-(n : Int))] [] (.u32 (rotr32 x n)) [] := by
 refine meets_of_ev (nt := 17) Tryd.func164 rfl rfl (Nat.le_of_ble_eq_true rfl) ?_
 refine .seq ?_
 refine .region ?_
 refine .q (op_assign rfl) trivial rfl ?_
 refine .nil ?_
 show Ev _ _ _ _ _
 refine .seq ?_
 refine .region ?_
 refine .q (op_move rfl) trivial rfl ?_
 refine .q (op_conv Tryd.underlying3 Tryd.underlying29 rfl rfl) trivial rfl ?_
 refine .q (op_bin64 rfl rfl rfl) trivial rfl ?_
 refine .as (.u64 (UInt64.ofNat (32 - n))) (congrArg AV.u64 (neg_andq n h1 h2)) ?_
 refine .q (op_assign rfl) trivial rfl ?_
 refine .nil ?_
 show Ev _ _ _ _ _
 refine .seq ?_
 refine .region ?_
 refine .q (op_move rfl) trivial rfl ?_
 refine .q (op_move rfl) trivial rfl ?_
 refine .q (op_shl32 (n := 32 - n) rfl rfl (by simp only [shiftBy]; first | rfl | (rw [UInt64.toNat_ofNat_of_lt' (show 32 - n < 2 ^ 64 by omega)]) | (simp; omega)) (by omega)) trivial rfl ?_
 refine .q (op_move rfl) trivial rfl ?_
 refine .q (op_move rfl) trivial rfl ?_
 refine .q (op_bin64 rfl rfl rfl) trivial rfl ?_
 refine .as (.u64 (UInt64.ofNat n)) (congrArg AV.u64 (sub_64q n h1 h2)) ?_
 refine .q (op_shr32 (n := n) rfl rfl (by simp only [shiftBy]; first | rfl | (rw [UInt64.toNat_ofNat_of_lt' (show n < 2 ^ 64 by omega)]) | (simp; omega)) (by omega)) trivial rfl ?_
 refine .q (op_bin32 rfl rfl rfl) trivial rfl ?_
 refine .q (op_assign rfl) trivial rfl ?_
 refine .nil ?_
 show Ev _ _ _ _ _
 refine .ret ?_
 show RetOk _ _ _ _ _ _ _
 exact ret1v rfl (.inl rfl) rfl rfl trivial
set_option maxRecDepth 100000 in
theorem rot_evq (x : UInt32) (n : Nat) (h1 : 1 ≤ n) (h2 : n ≤ 31) : Meets Tryd.prog 129 [.u32 x, .i64 (n : Int)] [] (.u32 (rotr32 x n)) [] := by
 refine meets_of_ev (nt := 9) Tryd.func129 rfl rfl (Nat.le_of_ble_eq_true rfl) ?_
 refine .seq ?_
 refine .region ?_
 refine .q (op_assign rfl) trivial rfl ?_
 refine .nil ?_
 show Ev _ _ _ _ _
 refine .seq ?_
 refine .region ?_
 refine .q (op_move rfl) trivial rfl ?_
 refine .q (op_move rfl) trivial rfl ?_
 refine .q (op_negI rfl ⟨by omega, by omega⟩) trivial rfl ?_
 refine .as (.i64 (-(n : Int))) (congrArg AV.i64 (by omega)) ?_
 refine .q (op_call (U := []) [] [] (rotl_evq x n h1 h2) Tryd.func164 (by kernel_rfl) rfl rfl rfl (⟨⟨_, rfl, rfl, rfl⟩, ⟨_, rfl, rfl, rfl⟩, trivial⟩) (trivial) (trivial) (trivial) rfl) trivial rfl ?_
 refine .q (op_assign rfl) trivial rfl ?_
 refine .nil ?_
 show Ev _ _ _ _ _
 refine .ret ?_
 show RetOk _ _ _ _ _ _ _
 exact ret1v rfl (.inl rfl) rfl rfl trivial
set_option maxRecDepth 100000 in
theorem hread_evq (l : List UInt8) (o n e : Nat) (h : o + n ≤ l.length) (hn : n ≤ 4) : Meets Tryd.prog 163 [.sl 500 o n 1] [(500, some ⟨.aggB l, e, false⟩)] (.u32 (beNq (l.drop o) n)) [(500, some ⟨.aggB l, e, false⟩)] := by
 refine meets_of_ev (nt := 20) Tryd.func163 rfl rfl (Nat.le_of_ble_eq_true rfl) ?_
 refine .seq ?_
 refine .region ?_
 refine .q (op_assign rfl) trivial rfl ?_
 refine .nil ?_
 show Ev _ _ _ _ _
 refine .seq ?_
 refine .region ?_
 refine .q (op_assign rfl) trivial rfl ?_
 refine .nil ?_
 show Ev _ _ _ _ _
 refine .seq ?_
 refine .seq ?_
 refine .region ?_
 refine .q (op_move rfl) trivial rfl ?_
 refine .q (op_len_sl Tryd.underlying28 rfl) trivial rfl ?_
 refine .q (op_move rfl) trivial rfl ?_
 refine .nil ?_
 show Ev _ _ _ _ _
 refine .block ?_
 refine Ev.loop (ι := { j : Nat // j ≤ n }) (fun j => ⟨[(0, .sl 500 o n 1), (3, .u32 (beNq (l.drop o) j.1)), (6, .i64 (n : Int)), (7, .i64 ((j.1 : Nat) : Int))], [(500, some ⟨.aggB l, e, false⟩)], 1000⟩) (fun j => n - j.1) ⟨0, Nat.zero_le _⟩ (StLe.mk [] rfl rfl ⟨⟨_, rfl, by first | rfl | (simp only [AV.ren]; congr 1; omega), rfl⟩, ⟨_, rfl, by first | rfl | (simp only [AV.ren]; congr 1; omega), rfl⟩, ⟨_, rfl, by first | rfl | (simp only [AV.ren]; congr 1; omega), rfl⟩, ⟨_, rfl, by first | rfl | (simp only [AV.ren]; congr 1; omega), rfl⟩, trivial⟩ ⟨⟨_, _, rfl, rfl, by first | rfl | (simp only [AV.ren]; congr 1; omega), rfl, id, rfl⟩, trivial⟩) ?_
 rintro ⟨j, hj⟩
 dsimp only
 refine .seq ?_
 refine .region ?_
 refine .q (op_cmpI rfl rfl rfl) trivial rfl ?_
 refine .nil ?_
 show Ev _ _ _ _ _
 refine .seq ?_
 refine .cond rfl (fun hc8 => ?_) (fun hc8 => ?_)
 ·simp only [decide_eq_true_eq] at hc8
  refine .skip ?_
  show Ev _ _ _ _ _
  refine .seq ?_
  refine .block ?_
  refine .seq ?_
  refine .region ?_
  refine .q (op_move rfl) trivial rfl ?_
  refine .q (op_assign rfl) trivial rfl ?_
  refine .nil ?_
  show Ev _ _ _ _ _
  refine .region ?_
  refine .q (op_move rfl) trivial rfl ?_
  refine .q (op_shl32 (n := 8) rfl rfl rfl (by decide)) trivial rfl ?_
  refine .q (op_move rfl) trivial rfl ?_
  refine .q (op_move rfl) trivial rfl ?_
  refine .q (ap_idx Tryd.underlying28 inf5.sz rfl rfl rfl (by first | omega | (simp only [AV.len]; omega) | (simp only [AV.len, List.length_set]; omega) | assumption | (simp [AV.len]; done))) trivial rfl ?_
  refine .q (op_load Tryd.underlying5 rfl rfl rfl rfl (by first | omega | (simp only [AV.len]; omega) | (simp only [AV.len, List.length_set]; omega) | assumption | (simp [AV.len]; done))) trivial rfl ?_
  refine .q (op_conv Tryd.underlying5 Tryd.underlying61 rfl rfl) trivial rfl ?_
  refine .q (op_bin32 rfl rfl rfl) trivial rfl ?_
  refine .q (op_assign rfl) trivial rfl ?_
  refine .nil ?_
  show Ev _ _ _ _ _
  refine .region ?_
  refine .q (op_addI rfl rfl ⟨by omega, by omega⟩) trivial rfl ?_
  refine .q (op_move rfl) trivial rfl ?_
  refine .nil ?_
  exact ⟨⟨j + 1, by omega⟩, by show n - (j + 1) < n - j; omega, StLe.mk [] rfl rfl ⟨⟨_, rfl, by first | rfl | (simp only [AV.ren]; congr 1; omega), rfl⟩, ⟨_, rfl, by (simp only [AV.ren, beNq, List.getD_eq_getElem?_getD, List.getElem?_drop]), rfl⟩, ⟨_, rfl, by first | rfl | (simp only [AV.ren]; congr 1; omega), rfl⟩, ⟨_, rfl, by first | rfl | (simp only [AV.ren]; congr 1; omega), rfl⟩, trivial⟩ ⟨⟨_, _, rfl, rfl, by first | rfl | (simp only [AV.ren]; congr 1; omega), rfl, id, rfl⟩, trivial⟩⟩
 ·simp only [decide_eq_false_iff_not] at hc8
  refine .exit ?_
  show Ev _ _ _ _ _
  have ej : j = n := by omega
  refine Ev.weak (st2 := ⟨[(0, .sl 500 o n 1), (3, .u32 (beNq (l.drop o) (n))), (6, .i64 (n : Int)), (7, .i64 (((n) : Nat) : Int))], [(500, some ⟨.aggB l, e, false⟩)], 1000⟩) (StLe.mk [] rfl rfl ⟨⟨_, rfl, by first | (simp only [AV.ren]; done) | (simp only [AV.ren]; rw [ej]; done) | rfl, rfl⟩, ⟨_, rfl, by first | (simp only [AV.ren]; done) | (simp only [AV.ren]; rw [ej]; done) | rfl, rfl⟩, ⟨_, rfl, by first | (simp only [AV.ren]; done) | (simp only [AV.ren]; rw [ej]; done) | rfl, rfl⟩, ⟨_, rfl, by first | (simp only [AV.ren]; done) | (simp only [AV.ren]; rw [ej]; done) | rfl, rfl⟩, trivial⟩ ⟨⟨_, _, rfl, rfl, by first | (simp only [AV.ren]; done) | (simp only [AV.ren]; rw [ej]; done) | rfl, rfl, id, rfl⟩, trivial⟩) ?_
  refine .seq ?_
  refine .region ?_
  refine .q (op_move rfl) trivial rfl ?_
  refine .q (op_assign rfl) trivial rfl ?_
  refine .nil ?_
  show Ev _ _ _ _ _
  refine .ret ?_
  show RetOk _ _ _ _ _ _ _
  exact ret1v rfl (.inl rfl) rfl rfl ⟨rfl, trivial⟩
set_option maxRecDepth 100000 in
theorem hput_evq (l : List UInt8) (o n e : Nat) (x : UInt32) (h : o + n ≤ l.length) (hn : n ≤ 4) : Meets Tryd.prog 65 [.sl 500 o n 1, .u32 x] [(500, some ⟨.aggB l, e, true⟩)] (.tup []) [(500, some ⟨.aggB (pbNq l o n x n), e, true⟩)] := by
 refine meets_of_ev (nt := 23) Tryd.func65 rfl rfl (Nat.le_of_ble_eq_true rfl) ?_
 refine .seq ?_
 refine .region ?_
 refine .q (op_move rfl) trivial rfl ?_
 refine .q (op_len_sl Tryd.underlying28 rfl) trivial rfl ?_
 refine .q (op_move rfl) trivial rfl ?_
 refine .nil ?_
 show Ev _ _ _ _ _
 refine .block ?_
 refine Ev.loop (ι := { j : Nat // j ≤ n }) (fun j => ⟨[(0, .sl 500 o n 1), (1, .u32 x), (6, .i64 (n : Int)), (7, .i64 ((j.1 : Nat) : Int))], [(500, some ⟨.aggB (pbNq l o n x j.1), e, true⟩)], 1000⟩) (fun j => n - j.1) ⟨0, Nat.zero_le _⟩ (StLe.mk [] rfl rfl ⟨⟨_, rfl, by first | rfl | (simp only [AV.ren]; congr 1; omega), rfl⟩, ⟨_, rfl, by first | rfl | (simp only [AV.ren]; congr 1; omega), rfl⟩, ⟨_, rfl, by first | rfl | (simp only [AV.ren]; congr 1; omega), rfl⟩, ⟨_, rfl, by first | rfl | (simp only [AV.ren]; congr 1; omega), rfl⟩, trivial⟩ ⟨⟨_, _, rfl, rfl, by first | rfl | (simp only [AV.ren]; congr 1; omega), rfl, id, rfl⟩, trivial⟩) ?_
 rintro ⟨j, hj⟩
 dsimp only
 have hl : (pbNq l o n x j).length = l.length := length_pbNq l o n x j
 refine .seq ?_
 refine .region ?_
 refine .q (op_cmpI rfl rfl rfl) trivial rfl ?_
 refine .nil ?_
 show Ev _ _ _ _ _
 refine .seq ?_
 refine .cond rfl (fun hc8 => ?_) (fun hc8 => ?_)
 ·simp only [decide_eq_true_eq] at hc8
  refine .skip ?_
  show Ev _ _ _ _ _
  refine .seq ?_
  refine .block ?_
  refine .seq ?_
  refine .region ?_
  refine .q (op_move rfl) trivial rfl ?_
  refine .q (op_assign rfl) trivial rfl ?_
  refine .nil ?_
  show Ev _ _ _ _ _
  refine .region ?_
  refine .q (op_move rfl) trivial rfl ?_
  refine .q (op_move rfl) trivial rfl ?_
  refine .q (op_len_sl Tryd.underlying28 rfl) trivial rfl ?_
  refine .q (op_subI rfl rfl ⟨by omega, by omega⟩) trivial rfl ?_
  refine .q (op_move rfl) trivial rfl ?_
  refine .q (op_subI rfl rfl ⟨by omega, by omega⟩) trivial rfl ?_
  refine .q (op_move rfl) trivial rfl ?_
  refine .q (op_move rfl) trivial rfl ?_
  refine .q (op_mulI rfl rfl ⟨by omega, by omega⟩) trivial rfl ?_
  refine .q (op_shr32 (n := 8 * j) rfl rfl (by simp only [shiftBy]; rw [show (8 : Int) * (j : Int) = ((8 * j : Nat) : Int) by omega]) (by omega)) trivial rfl ?_
  refine .q (op_conv Tryd.underlying61 Tryd.underlying5 rfl rfl) trivial rfl ?_
  refine .q (ap_idx Tryd.underlying28 inf5.sz rfl rfl (i := n - 1 - j) (by omega) (by omega)) trivial rfl ?_
  refine .w (op_store inf5.sz rfl rfl rfl rfl rfl (by simp only [AV.len]; omega)) trivial rfl ?_
  refine .nil ?_
  show Ev _ _ _ _ _
  refine .region ?_
  refine .q (op_addI rfl rfl ⟨by omega, by omega⟩) trivial rfl ?_
  refine .q (op_move rfl) trivial rfl ?_
  refine .nil ?_
  exact ⟨⟨j + 1, by omega⟩, by show n - (j + 1) < n - j; omega, StLe.mk [] rfl rfl ⟨⟨_, rfl, by first | rfl | (simp only [AV.ren]; congr 1; omega), rfl⟩, ⟨_, rfl, by first | rfl | (simp only [AV.ren]; congr 1; omega), rfl⟩, ⟨_, rfl, by first | rfl | (simp only [AV.ren]; congr 1; omega), rfl⟩, ⟨_, rfl, by first | rfl | (simp only [AV.ren]; congr 1; omega), rfl⟩, trivial⟩ ⟨⟨_, _, rfl, rfl, by first | rfl | (simp only [AV.ren]; congr 1; omega), rfl, id, rfl⟩, trivial⟩⟩
 ·simp only [decide_eq_false_iff_not] at hc8
  refine .exit ?_
  show RetOk _ _ _ _ _ _ _
  have ej : j = n := by omega
  exact ret0 rfl (.inr rfl) ⟨by rw [ej]; rfl, trivial⟩
set_option maxHeartbeats 1000000 in
set_option maxRecDepth 100000 in
theorem sched_evq (bs : List UInt8) (e : Nat) (hb : bs.length = 64) : Meets Tryd.prog 128 [.sl 500 0 64 1] [(500, some ⟨.aggB bs, e, false⟩)] (.agg32 (sched32 (words32z bs 16) 48)) [] := by
 obtain ⟨R, hR⟩ : ∃ R, sched32 (words32z bs 16) 48 = R := ⟨_, rfl⟩
 have hlR : R.length = 64 := by rw [← hR, ← sched_allq, length_schNq]; exact length_wdNq bs 16
 rw [hR]
 refine meets_of_ev (nt := 68) Tryd.func128 rfl rfl (Nat.le_of_ble_eq_true rfl) ?_
 refine .seq ?_
 refine .region ?_
 refine .a (op_allocRow zero178 rel_zero178 rfl) trivial rfl ?_
 refine .nil ?_
 show Ev _ _ _ _ _
 refine .seq ?_
 refine .region ?_
 refine .a (op_allocRow zero178 rel_zero178 rfl) trivial rfl ?_
 refine .nil ?_
 show Ev _ _ _ _ _
 refine .seq ?_
 refine .seq ?_
 refine .region ?_
 refine .q (op_move rfl) trivial rfl ?_
 refine .nil ?_
 show Ev _ _ _ _ _
 refine .block ?_
 refine Ev.loop (ι := { j : Nat // j ≤ 16 }) (fun j => ⟨[(0, .sl 500 0 64 1), (2, .ptr 1000 0), (3, .ptr 1008 0), (10, .i64 ((j.1 : Nat) : Int))], [(500, some ⟨.aggB bs, e, false⟩), (1000, some ⟨.agg32 (List.replicate 64 0), 178, true⟩), (1008, some ⟨.agg32 (wdNq bs j.1), 178, true⟩)], 1016⟩) (fun j => 16 - j.1) ⟨0, Nat.zero_le _⟩ (StLe.mk [(1000, 1000), (1008, 1008)] rfl rfl ⟨⟨_, rfl, by first | rfl | (simp only [AV.ren]; congr 1; omega), rfl⟩, ⟨_, rfl, by first | rfl | (simp only [AV.ren]; congr 1; omega), rfl⟩, ⟨_, rfl, by first | rfl | (simp only [AV.ren]; congr 1; omega), rfl⟩, ⟨_, rfl, by first | rfl | (simp only [AV.ren]; congr 1; omega), rfl⟩, trivial⟩ ⟨⟨_, _, rfl, rfl, by first | rfl | (simp only [AV.ren]; congr 1; omega), rfl, id, rfl⟩, ⟨_, _, rfl, rfl, by first | rfl | (simp only [AV.ren]; congr 1; omega), rfl, id, rfl⟩, ⟨_, _, rfl, rfl, by first | rfl | (simp only [AV.ren]; congr 1; omega), rfl, id, rfl⟩, trivial⟩) ?_
 rintro ⟨j, hj⟩
 dsimp only
 have hl : (wdNq bs j).length = 64 := length_wdNq bs j
 refine .seq ?_
 refine .region ?_
 refine .q (op_cmpI rfl rfl rfl) trivial rfl ?_
 refine .nil ?_
 show Ev _ _ _ _ _
 refine .seq ?_
 refine .cond rfl (fun hc11 => ?_) (fun hc11 => ?_)
 ·simp only [decide_eq_true_eq] at hc11
  refine .skip ?_
  show Ev _ _ _ _ _
  refine .seq ?_
  refine .block ?_
  refine .seq ?_
  refine .region ?_
  refine .q (op_move rfl) trivial rfl ?_
  refine .q (op_assign rfl) trivial rfl ?_
  refine .nil ?_
  show Ev _ _ _ _ _
  refine .region ?_
  refine .q (op_move rfl) trivial rfl ?_
  refine .q (op_move rfl) trivial rfl ?_
  refine .q (op_move rfl) trivial rfl ?_
  refine .q (op_mulI rfl rfl ⟨by omega, by omega⟩) trivial rfl ?_
  refine .q (op_move rfl) trivial rfl ?_
  refine .q (op_mulI rfl rfl ⟨by omega, by omega⟩) trivial rfl ?_
  refine .q (op_addI rfl rfl ⟨by omega, by omega⟩) trivial rfl ?_
  refine .q (op_slice_sl Tryd.underlying28 inf5.sz rfl (bnd_some rfl (l := 4 * j) (by omega)) (bnd_some rfl (l := 4 * j + 4) (by omega)) (by first | omega | (simp only [AV.len]; omega)) (by first | omega | (simp only [AV.len]; omega))) trivial rfl ?_
  refine .as (.sl 500 (4 * j) 4 1) (slice_as2 (by omega) (by omega)) ?_
  refine .q (op_call (U := []) [(500, 500)] [] (hread_evq bs (4 * j) 4 e (by omega) (by omega)) Tryd.func163 (by kernel_rfl) rfl rfl rfl (⟨⟨_, rfl, rfl, rfl⟩, trivial⟩) (⟨⟨_, _, rfl, rfl, rfl, rfl, (fun h => by cases h), rfl⟩, trivial⟩) (trivial) (⟨(fun h => by cases h), trivial⟩) rfl) trivial rfl ?_
  refine .as (.u32 (be32z ((bs.drop (4 * j)).take 4))) (congrArg AV.u32 (beN_takeq _ 4 (by rw [List.length_drop]; omega))) ?_
  refine .q (ap_idx_arr Tryd.underlying178 inf61.sz rfl rfl rfl (by first | omega | (simp only [AV.len]; omega) | (simp only [AV.len, List.length_set]; omega) | assumption | (simp [AV.len]; done))) trivial rfl ?_
  refine .w (op_store inf61.sz rfl rfl rfl rfl rfl (by first | omega | (simp only [AV.len]; omega) | (simp only [AV.len, List.length_set]; omega) | assumption | (simp [AV.len]; done))) trivial rfl ?_
  refine .nil ?_
  show Ev _ _ _ _ _
  refine .region ?_
  refine .q (op_addI rfl rfl ⟨by omega, by omega⟩) trivial rfl ?_
  refine .q (op_move rfl) trivial rfl ?_
  refine .nil ?_
  exact ⟨⟨j + 1, by omega⟩, by show 16 - (j + 1) < 16 - j; omega, StLe.mk [(1000, 1000), (1008, 1008)] rfl rfl ⟨⟨_, rfl, by first | rfl | (simp only [AV.ren]; congr 1; omega), rfl⟩, ⟨_, rfl, by first | rfl | (simp only [AV.ren]; congr 1; omega), rfl⟩, ⟨_, rfl, by first | rfl | (simp only [AV.ren]; congr 1; omega), rfl⟩, ⟨_, rfl, by first | rfl | (simp only [AV.ren]; congr 1; omega), rfl⟩, trivial⟩ ⟨⟨_, _, rfl, rfl, by first | rfl | (simp only [AV.ren]; congr 1; omega), rfl, id, rfl⟩, ⟨_, _, rfl, rfl, by first | rfl | (simp only [AV.ren]; congr 1; omega), rfl, id, rfl⟩, ⟨_, _, rfl, rfl, by first | rfl | (simp only [AV.ren]; congr 1; omega), rfl, id, rfl⟩, trivial⟩⟩
 ·simp only [decide_eq_false_iff_not] at hc11
  refine .exit ?_
  show Ev _ _ _ _ _
  have ej : j = 16 := by omega
  refine Ev.weak (st2 := ⟨[(0, .sl 500 0 64 1), (2, .ptr 1000 0), (3, .ptr 1008 0), (10, .i64 (((16) : Nat) : Int))], [(500, some ⟨.aggB bs, e, false⟩), (1000, some ⟨.agg32 (List.replicate 64 0), 178, true⟩), (1008, some ⟨.agg32 (wdNq bs (16)), 178, true⟩)], 1016⟩) (StLe.mk [(1000, 1000), (1008, 1008)] rfl rfl ⟨⟨_, rfl, by first | (simp only [AV.ren]; done) | (simp only [AV.ren]; rw [ej]; done) | rfl, rfl⟩, ⟨_, rfl, by first | (simp only [AV.ren]; done) | (simp only [AV.ren]; rw [ej]; done) | rfl, rfl⟩, ⟨_, rfl, by first | (simp only [AV.ren]; done) | (simp only [AV.ren]; rw [ej]; done) | rfl, rfl⟩, ⟨_, rfl, by first | (simp only [AV.ren]; done) | (simp only [AV.ren]; rw [ej]; done) | rfl, rfl⟩, trivial⟩ ⟨⟨_, _, rfl, rfl, by first | (simp only [AV.ren]; done) | (simp only [AV.ren]; rw [ej]; done) | rfl, rfl, id, rfl⟩, ⟨_, _, rfl, rfl, by first | (simp only [AV.ren]; done) | (simp only [AV.ren]; rw [ej]; done) | rfl, rfl, id, rfl⟩, ⟨_, _, rfl, rfl, by first | (simp only [AV.ren]; done) | (simp only [AV.ren]; rw [ej]; done) | rfl, rfl, id, rfl⟩, trivial⟩) ?_
  refine .seq ?_
  refine .seq ?_
  refine .region ?_
  refine .q (op_move rfl) trivial rfl ?_
  refine .nil ?_
  show Ev _ _ _ _ _
  refine .block ?_
  refine Ev.loop (ι := { j : Nat // j ≤ 48 }) (fun j => ⟨[(2, .ptr 1000 0), (3, .ptr 1008 0), (24, .i64 ((j.1 : Nat) : Int))], [(500, some ⟨.aggB bs, e, false⟩), (1000, some ⟨.agg32 (List.replicate 64 0), 178, true⟩), (1008, some ⟨.agg32 (schNq (wdNq bs 16) j.1), 178, true⟩)], 1016⟩) (fun j => 48 - j.1) ⟨0, Nat.zero_le _⟩ (StLe.mk [(1000, 1000), (1008, 1008)] rfl rfl ⟨⟨_, rfl, by first | rfl | (simp only [AV.ren]; congr 1; omega), rfl⟩, ⟨_, rfl, by first | rfl | (simp only [AV.ren]; congr 1; omega), rfl⟩, ⟨_, rfl, by first | rfl | (simp only [AV.ren]; congr 1; omega), rfl⟩, trivial⟩ ⟨⟨_, _, rfl, rfl, by first | rfl | (simp only [AV.ren]; congr 1; omega), rfl, id, rfl⟩, ⟨_, _, rfl, rfl, by first | rfl | (simp only [AV.ren]; congr 1; omega), rfl, id, rfl⟩, ⟨_, _, rfl, rfl, by first | rfl | (simp only [AV.ren]; congr 1; omega), rfl, id, rfl⟩, trivial⟩) ?_
  rintro ⟨j, hj⟩
  dsimp only
  have hl : (schNq (wdNq bs 16) j).length = 64 := by rw [length_schNq]; exact length_wdNq bs 16
  refine .seq ?_
  refine .region ?_
  refine .q (op_cmpI rfl rfl rfl) trivial rfl ?_
  refine .nil ?_
  show Ev _ _ _ _ _
  refine .seq ?_
  refine .cond rfl (fun hc25 => ?_) (fun hc25 => ?_)
  ·simp only [decide_eq_true_eq] at hc25
   refine .skip ?_
   show Ev _ _ _ _ _
   refine .seq ?_
   refine .block ?_
   refine .seq ?_
   refine .region ?_
   refine .q (op_move rfl) trivial rfl ?_
   refine .q (op_assign rfl) trivial rfl ?_
   refine .nil ?_
   show Ev _ _ _ _ _
   refine .seq ?_
   refine .drawn [[], [0], [0, 1], [0, 1, 2], [], [4], [4, 5], [4, 5, 6], [0, 1, 2, 3], [0, 1, 2, 3, 4, 5, 6, 7, 8]] [3, 7] [] (by kernel_rfl) (by kernel_rfl) rfl ?_
   show DK _ [0, 1, 2, 3, 4, 5, 6, 7, 8, 9] _ _ _
   refine .q rfl (op_move rfl) trivial ?_
   refine .q rfl (op_addI rfl rfl ⟨by omega, by omega⟩) trivial ?_
   refine .q rfl (ap_idx_arr Tryd.underlying178 inf61.sz rfl rfl (i := j + 1) (by omega) (by omega)) trivial ?_
   refine .q rfl (op_load Tryd.underlying61 rfl rfl rfl rfl (by show _ < (schNq (wdNq bs 16) j).length; omega)) trivial ?_
   refine .q rfl (op_move rfl) trivial ?_
   refine .q rfl (op_addI rfl rfl ⟨by omega, by omega⟩) trivial ?_
   refine .q rfl (ap_idx_arr Tryd.underlying178 inf61.sz rfl rfl (i := j + 14) (by omega) (by omega)) trivial ?_
   refine .q rfl (op_load Tryd.underlying61 rfl rfl rfl rfl (by show _ < (schNq (wdNq bs 16) j).length; omega)) trivial ?_
   refine .q rfl (op_assign rfl) trivial ?_
   refine .q rfl (op_assign rfl) trivial ?_
   refine .nil ?_
   show Ev _ _ _ _ _
   refine .seq ?_
   refine .region ?_
   refine .q (op_move rfl) trivial rfl ?_
   refine .q (op_call (U := []) [] [] (rot_evq _ 7 (by decide) (by decide)) Tryd.func129 (by kernel_rfl) rfl rfl rfl (⟨⟨_, rfl, rfl, rfl⟩, ⟨_, rfl, rfl, rfl⟩, trivial⟩) (trivial) (trivial) (trivial) rfl) trivial rfl ?_
   refine .q (op_move rfl) trivial rfl ?_
   refine .q (op_call (U := []) [] [] (rot_evq _ 18 (by decide) (by decide)) Tryd.func129 (by kernel_rfl) rfl rfl rfl (⟨⟨_, rfl, rfl, rfl⟩, ⟨_, rfl, rfl, rfl⟩, trivial⟩) (trivial) (trivial) (trivial) rfl) trivial rfl ?_
   refine .q (op_bin32 rfl rfl rfl) trivial rfl ?_
   refine .q (op_move rfl) trivial rfl ?_
   refine .q (op_shr32 (n := 3) rfl rfl rfl (by decide)) trivial rfl ?_
   refine .q (op_bin32 rfl rfl rfl) trivial rfl ?_
   refine .q (op_assign rfl) trivial rfl ?_
   refine .nil ?_
   show Ev _ _ _ _ _
   refine .seq ?_
   refine .region ?_
   refine .q (op_move rfl) trivial rfl ?_
   refine .q (op_call (U := []) [] [] (rot_evq _ 17 (by decide) (by decide)) Tryd.func129 (by kernel_rfl) rfl rfl rfl (⟨⟨_, rfl, rfl, rfl⟩, ⟨_, rfl, rfl, rfl⟩, trivial⟩) (trivial) (trivial) (trivial) rfl) trivial rfl ?_
   refine .q (op_move rfl) trivial rfl ?_
   refine .q (op_call (U := []) [] [] (rot_evq _ 19 (by decide) (by decide)) Tryd.func129 (by kernel_rfl) rfl rfl rfl (⟨⟨_, rfl, rfl, rfl⟩, ⟨_, rfl, rfl, rfl⟩, trivial⟩) (trivial) (trivial) (trivial) rfl) trivial rfl ?_
   refine .q (op_bin32 rfl rfl rfl) trivial rfl ?_
   refine .q (op_move rfl) trivial rfl ?_
   refine .q (op_shr32 (n := 10) rfl rfl rfl (by decide)) trivial rfl ?_
   refine .q (op_bin32 rfl rfl rfl) trivial rfl ?_
   refine .q (op_assign rfl) trivial rfl ?_
   refine .nil ?_
   show Ev _ _ _ _ _
   refine .drawn [[], [0], [], [], [3], [3, 4], [3, 4, 5], [2, 3, 4, 5, 6], [], [2, 3, 4, 5, 6, 7, 8], [], [10], [10, 11], [2, 3, 4, 5, 6, 7, 8, 9, 10, 11, 12], [0, 1, 2, 3, 4, 5, 6, 7, 8, 9, 10, 11, 12, 13], [0, 1, 2, 3, 4, 5, 6, 7, 8, 9, 10, 11, 12, 13, 14]] [6, 12, 15] [15] (by kernel_rfl) (by kernel_rfl) rfl ?_
   show DK _ [0, 1, 2, 3, 4, 5, 6, 7, 8, 9, 10, 11, 12, 13, 14, 15] _ _ _
   refine .q rfl (op_move rfl) trivial ?_
   refine .q rfl (op_addI rfl rfl ⟨by omega, by omega⟩) trivial ?_
   refine .q rfl (op_move rfl) trivial ?_
   refine .q rfl (op_move rfl) trivial ?_
   refine .q rfl (op_addI rfl rfl ⟨by omega, by omega⟩) trivial ?_
   refine .q rfl (ap_idx_arr Tryd.underlying178 inf61.sz rfl rfl (i := j + 9) (by omega) (by omega)) trivial ?_
   refine .q rfl (op_load Tryd.underlying61 rfl rfl rfl rfl (by show _ < (schNq (wdNq bs 16) j).length; omega)) trivial ?_
   refine .q rfl (op_bin32 rfl rfl rfl) trivial ?_
   refine .q rfl (op_move rfl) trivial ?_
   refine .q rfl (op_bin32 rfl rfl rfl) trivial ?_
   refine .q rfl (op_move rfl) trivial ?_
   refine .q rfl (ap_idx_arr Tryd.underlying178 inf61.sz rfl rfl rfl (by first | omega | (simp only [AV.len]; omega) | (simp only [AV.len, List.length_set]; omega) | assumption | (simp [AV.len]; done))) trivial ?_
   refine .q rfl (op_load Tryd.underlying61 rfl rfl rfl rfl (by show _ < (schNq (wdNq bs 16) j).length; omega)) trivial ?_
   refine .q rfl (op_bin32 rfl rfl rfl) trivial ?_
   refine .q rfl (ap_idx_arr Tryd.underlying178 inf61.sz rfl rfl (i := j + 16) (by omega) (by omega)) trivial ?_
   refine .w rfl (op_store inf61.sz rfl rfl rfl rfl rfl (by show _ < (schNq (wdNq bs 16) j).length; omega)) trivial rfl rfl ?_
   refine .nil ?_
   show Ev _ _ _ _ _
   refine .region ?_
   refine .q (op_addI rfl rfl ⟨by omega, by omega⟩) trivial rfl ?_
   refine .q (op_move rfl) trivial rfl ?_
   refine .nil ?_
   exact ⟨⟨j + 1, by omega⟩, by show 48 - (j + 1) < 48 - j; omega, StLe.mk [(1000, 1000), (1008, 1008)] rfl rfl ⟨⟨_, rfl, by first | rfl | (simp only [AV.ren]; congr 1; omega), rfl⟩, ⟨_, rfl, by first | rfl | (simp only [AV.ren]; congr 1; omega), rfl⟩, ⟨_, rfl, by first | rfl | (simp only [AV.ren]; congr 1; omega), rfl⟩, trivial⟩ ⟨⟨_, _, rfl, rfl, by first | rfl | (simp only [AV.ren]; congr 1; omega), rfl, id, rfl⟩, ⟨_, _, rfl, rfl, by first | rfl | (simp only [AV.ren]; congr 1; omega), rfl, id, rfl⟩, ⟨_, _, rfl, rfl, by first | rfl | (simp only [AV.ren]; congr 1; omega), rfl, id, rfl⟩, trivial⟩⟩
  ·simp only [decide_eq_false_iff_not] at hc25
   refine .exit ?_
   show Ev _ _ _ _ _
   have ej : j = 48 := by omega
   refine Ev.weak (st2 := ⟨[(2, .ptr 1000 0), (3, .ptr 1008 0), (24, .i64 (((48) : Nat) : Int))], [(500, some ⟨.aggB bs, e, false⟩), (1000, some ⟨.agg32 (List.replicate 64 0), 178, true⟩), (1008, some ⟨.agg32 (schNq (wdNq bs 16) (48)), 178, true⟩)], 1016⟩) (StLe.mk [(1000, 1000), (1008, 1008)] rfl rfl ⟨⟨_, rfl, by first | (simp only [AV.ren]; done) | (simp only [AV.ren]; rw [ej]; done) | rfl, rfl⟩, ⟨_, rfl, by first | (simp only [AV.ren]; done) | (simp only [AV.ren]; rw [ej]; done) | rfl, rfl⟩, ⟨_, rfl, by first | (simp only [AV.ren]; done) | (simp only [AV.ren]; rw [ej]; done) | rfl, rfl⟩, trivial⟩ ⟨⟨_, _, rfl, rfl, by first | (simp only [AV.ren]; done) | (simp only [AV.ren]; rw [ej]; done) | rfl, rfl, id, rfl⟩, ⟨_, _, rfl, rfl, by first | (simp only [AV.ren]; done) | (simp only [AV.ren]; rw [ej]; done) | rfl, rfl, id, rfl⟩, ⟨_, _, rfl, rfl, by first | (simp only [AV.ren]; done) | (simp only [AV.ren]; rw [ej]; done) | rfl, rfl, id, rfl⟩, trivial⟩) ?_
   refine .seq ?_
   refine .region ?_
   refine .q (op_loadRow Tryd.underlying178 rfl sz178 rfl rfl rfl (by show (schNq (wdNq bs 16) 48).length = 64; rw [length_schNq]; exact length_wdNq bs 16)) trivial rfl ?_
   refine .as (.agg32 R) (congrArg AV.agg32 ((sched_allq bs).trans hR)) ?_
   refine .w (op_storeRow sz178 rfl rfl rfl rfl rfl (by first | omega | exact hlR | exact List.length_replicate) (by first | omega | exact hlR | exact List.length_replicate)) trivial rfl ?_
   refine .nil ?_
   show Ev _ _ _ _ _
   refine .ret ?_
   show RetOk _ _ _ _ _ _ _
   exact retc1 rfl (.inl rfl) ⟨_, _, _, _, rfl, rfl, rfl, rfl, (hlR), Tryd.underlying178, rfl, sz178⟩ trivial
end Go.Proofs.YtcnjekoidgefpaaDoor
