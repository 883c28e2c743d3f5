/-
  Texts of this claim.
-/
import Derived.Test.YtcnjekoidgefpaaGreatDoorGEE
import Derived.Test.YtcnjekoidgefpaaGreatDoorGSE
namespace Go.Proofs.YtcnjekoidgefpaaGreatDoor
open Go.RowKit
def stl (s : St64) : List UInt64 := [s.v0, s.v1, s.v2, s.v3, s.v4, s.v5, s.v6, s.v7]
theorem neg_and (n : Nat) (h1 : 1 ≤ n) (h2 : n ≤ 63) : ofI64 (-(n : Int)) &&& UInt64.ofNat 63 = UInt64.ofNat (64 - n) := by
  apply UInt64.toNat_inj.1
  rw [UInt64.toNat_and, show (UInt64.ofNat 63).toNat = 2 ^ 6 - 1 from rfl, Nat.and_two_pow_sub_one_eq_mod, UInt64.toNat_ofNat_of_lt' (show 64 - n < 2 ^ 64 by omega)]
  unfold ofI64
  rw [UInt64.toNat_ofNat_of_lt' (by show _ < 18446744073709551616; omega)]
  omega
theorem sub_64 (n : Nat) (h1 : 1 ≤ n) (h2 : n ≤ 63) : UInt64.ofNat 64 - UInt64.ofNat (64 - n) = UInt64.ofNat n := by
  apply UInt64.toNat_inj.1
  rw [UInt64.toNat_sub, UInt64.toNat_ofNat_of_lt' (show 64 - n < 2 ^ 64 by omega), UInt64.toNat_ofNat_of_lt' (show n < 2 ^ 64 by omega), show (UInt64.ofNat 64).toNat = 64 from rfl]
  omega
def beN (l : List UInt8) : Nat → UInt64
  | 0 => UInt64.ofNat 0
  | n + 1 => (beN l n <<< UInt64.ofNat 8) ||| (l.getD n 0).toUInt64
theorem beN_take (l : List UInt8) (n : Nat) (h : n ≤ l.length) : beN l n = be64z (l.take n) := by
  induction n with
  | zero => rfl
  | succ n ih =>
    have e : l.take (n + 1) = l.take n ++ [l.getD n 0] := by
      rw [List.take_succ_eq_append_getElem (by omega)]
      simp [List.getD_eq_getElem?_getD, show n < l.length by omega]
    rw [e, beN, ih (by omega)]
    simp [be64z, List.foldl_append]
def schN (l : List UInt64) : Nat → List UInt64
  | 0 => l
  | n + 1 => (schN l n).set (n + 16) (sig1_64 ((schN l n).getD (n + 14) 0) + (schN l n).getD (n + 9) 0 + sig0_64 ((schN l n).getD (n + 1) 0) + (schN l n).getD n 0)
theorem length_schN (l : List UInt64) (n : Nat) : (schN l n).length = l.length := by induction n with | zero => rfl | succ n ih => simp [schN, ih]
def wdN (bs : List UInt8) : Nat → List UInt64
  | 0 => List.replicate 80 0
  | n + 1 => (wdN bs n).set n (be64z ((bs.drop (8 * n)).take 8))
theorem length_wdN (bs : List UInt8) (n : Nat) : (wdN bs n).length = 80 := by induction n with | zero => rfl | succ n ih => simp [wdN, ih]
theorem wd_words (bs : List UInt8) (n : Nat) (h : n ≤ 80) : wdN bs n = mW bs n ++ List.replicate (80 - n) 0 := by
  induction n with
  | zero => simp [wdN, mW]
  | succ n ih =>
    have hl : (mW bs n).length = n := by simp [mW]
    rw [wdN, ih (by omega), words64_succz, show 80 - n = (80 - (n + 1)) + 1 by omega, List.replicate_succ]
    have := set_at (mW bs n) (List.replicate (80 - (n + 1)) (0 : UInt64)) 0 (be64z ((bs.drop (8 * n)).take 8))
    rw [hl] at this
    rw [this]; simp
theorem length_sched (l : List UInt64) (n : Nat) : (xW l n).length = l.length + n := by
  induction n with
  | zero => rfl
  | succ n ih => simp [xW, schedStep64, ih]; omega
theorem sch_sched (l : List UInt64) (hl : l.length = 16) (m n : Nat) (h : n + m = 64) : schN (l ++ List.replicate 64 0) n = xW l n ++ List.replicate m 0 := by
  induction n generalizing m with
  | zero => have : m = 64 := by omega
            subst this; rfl
  | succ n ih =>
    have hs := length_sched l n
    have g : ∀ i, i < 16 + n → (xW l n ++ List.replicate (m + 1) (0 : UInt64)).getD i 0 = (xW l n).getD i 0 := fun i hi => by
      rw [List.getD_eq_getElem?_getD, List.getElem?_append_left (by omega), ← List.getD_eq_getElem?_getD]
    rw [schN, ih (m + 1) (by omega), g _ (by omega), g _ (by omega), g _ (by omega), g _ (by omega), List.replicate_succ]
    have := set_at (xW l n) (List.replicate m (0 : UInt64)) 0 (sig1_64 ((xW l n).getD (n + 14) 0) + (xW l n).getD (n + 9) 0 + sig0_64 ((xW l n).getD (n + 1) 0) + (xW l n).getD n 0)
    rw [hs, hl, Nat.add_comm 16 n] at this
    rw [this]; simp [xW, schedStep64]
theorem sched_all (bs : List UInt8) : schN (wdN bs 16) 64 = xW (mW bs 16) 64 := by
  have hl : (mW bs 16).length = 16 := by simp [mW]
  rw [wd_words bs 16 (by omega), sch_sched _ hl 0 64 rfl]; simp
def adH (h v : List UInt64) : Nat → List UInt64
  | 0 => h
  | n + 1 => (adH h v n).set n ((adH h v n).getD n 0 + v.getD n 0)
theorem length_adH (h v : List UInt64) (n : Nat) : (adH h v n).length = h.length := by induction n with | zero => rfl | succ n ih => simp [adH, ih]
theorem adH_stl (s r : St64) : adH (stl s) (stl r) 8 = stl (addSt64 s r) := by
  simp only [adH, stl, addSt64, List.set_cons_zero, List.set_cons_succ, List.getD_cons_zero, List.getD_cons_succ]
set_option maxRecDepth 100000 in
theorem rotl_ev (x : UInt64) (n : Nat) (h1 : 1 ≤ n) (h2 : n ≤ 63) : mZ Tryz.prog 123 [.u64 x, .i64 (-(n : Int))] [] (.u64 (fU x n)) [] := by
 refine eZ (nt := 17) Tryz.func123 rfl rfl (Nat.le_of_ble_eq_true rfl) <| .seq <| .region <| .s rfl rfl <| .nil <| .seq <| .region <| .m rfl rfl <| .x (aW Tryz.underlying3 Tryz.underlying130 rfl rfl) rfl <| .x (qZ rfl rfl rfl) rfl <| .as (.u64 (UInt64.ofNat (64 - n))) (congrArg AV.u64 (neg_and n h1 h2)) <| .s rfl rfl <| .nil <| .seq <| .region <| .m rfl rfl <| .m rfl rfl <| .x (op_shl64 (n := 64 - n) rfl rfl (by simp only [wW]; first | rfl | (rw [UInt64.toNat_ofNat_of_lt' (show 64 - n < 2 ^ 64 by omega)]) | (simp; omega)) (by omega)) rfl <| .m rfl rfl <| .m rfl rfl <| .x (qZ rfl rfl rfl) rfl <| .as (.u64 (UInt64.ofNat n)) (congrArg AV.u64 (sub_64 n h1 h2)) <| .x (qX (n := n) rfl rfl (by simp only [wW]; first | rfl | (rw [UInt64.toNat_ofNat_of_lt' (show n < 2 ^ 64 by omega)]) | (simp; omega)) (by omega)) rfl <| .x (qZ rfl rfl rfl) rfl <| .s rfl rfl <| .nil <| .ret ?_
 exact iY rfl (.inl rfl) rfl rfl trivial
set_option maxRecDepth 100000 in
theorem rot_ev (x : UInt64) (n : Nat) (h1 : 1 ≤ n) (h2 : n ≤ 63) : mZ Tryz.prog 106 [.u64 x, .i64 (n : Int)] [] (.u64 (fU x n)) [] := by
 refine eZ (nt := 9) Tryz.func106 rfl rfl (Nat.le_of_ble_eq_true rfl) <| .seq <| .region <| .s rfl rfl <| .nil <| .seq <| .region <| .m rfl rfl <| .m rfl rfl <| .x (op_negI rfl ⟨by omega, by omega⟩) rfl <| .as (.i64 (-(n : Int))) (congrArg AV.i64 (by omega)) <| .x (aZ (U := []) [] [] (rotl_ev x n h1 h2) Tryz.func123 (by kernel_rfl) rfl rfl rfl (⟨⟨_, rfl, rfl, rfl⟩, ⟨_, rfl, rfl, rfl⟩, trivial⟩) (trivial) (trivial) (trivial) rfl) rfl <| .s rfl rfl <| .nil <| .ret ?_
 exact iY rfl (.inl rfl) rfl rfl trivial
set_option maxRecDepth 100000 in
theorem hread_ev (l : List UInt8) (o n e : Nat) (h : o + n ≤ l.length) (hn : n ≤ 8) : mZ Tryz.prog 122 [.sl 500 o n 1] [(500, some ⟨.aggB l, e, false⟩)] (.u64 (beN (l.drop o) n)) [(500, some ⟨.aggB l, e, false⟩)] := by
 refine eZ (nt := 20) Tryz.func122 rfl rfl (Nat.le_of_ble_eq_true rfl) <| .seq <| .region <| .s rfl rfl <| .nil <| .seq <| .region <| .s rfl rfl <| .nil <| .seq <| .seq <| .region <| .m rfl rfl <| .x (vZ Tryz.underlying25 rfl) rfl <| .m rfl rfl <| .nil <| .block <| Ev.loop (ι := { j : Nat // j ≤ n }) (fun j => ⟨[(0, .sl 500 o n 1), (3, .u64 (beN (l.drop o) j.1)), (6, .i64 (n : Int)), (7, .i64 ((j.1 : Nat) : Int))], [(500, some ⟨.aggB l, e, false⟩)], 1000⟩) (fun j => n - j.1) ⟨0, Nat.zero_le _⟩ (StLe.mk [] rfl rfl ⟨⟨_, rfl, by first | rfl | (simp only [AV.ren]; congr 1; omega), rfl⟩, ⟨_, rfl, by first | rfl | (simp only [AV.ren]; congr 1; omega), rfl⟩, ⟨_, rfl, by first | rfl | (simp only [AV.ren]; congr 1; omega), rfl⟩, ⟨_, rfl, by first | rfl | (simp only [AV.ren]; congr 1; omega), rfl⟩, trivial⟩ ⟨⟨_, _, rfl, rfl, by first | rfl | (simp only [AV.ren]; congr 1; omega), rfl, id, rfl⟩, trivial⟩) ?_
 rintro ⟨j, hj⟩
 dsimp only
 refine .seq <| .region <| .x (iZ rfl rfl rfl) rfl <| .nil <| .seq <| .cond rfl (fun hc8 => ?_) (fun hc8 => ?_)
 ·simp only [decide_eq_true_eq] at hc8
  refine .skip <| .seq <| .block <| .seq <| .region <| .m rfl rfl <| .s rfl rfl <| .nil <| .region <| .m rfl rfl <| .x (op_shl64 (n := 8) rfl rfl rfl (by decide)) rfl <| .m rfl rfl <| .m rfl rfl <| .x (ap_idx Tryz.underlying25 inf5.sz rfl rfl rfl (by omega)) rfl <| .x (kZ Tryz.underlying5 rfl rfl rfl rfl (by simp only [AV.len]; omega)) rfl <| .x (aW Tryz.underlying5 Tryz.underlying52 rfl rfl) rfl <| .x (qZ rfl rfl rfl) rfl <| .s rfl rfl <| .nil <| .region <| .x (lZ rfl rfl ⟨by omega, by omega⟩) rfl <| .m rfl rfl <| .nil ?_
  exact ⟨⟨j + 1, by omega⟩, by show n - (j + 1) < n - j; omega, StLe.mk [] rfl rfl ⟨⟨_, rfl, by first | rfl | (simp only [AV.ren]; congr 1; omega), rfl⟩, ⟨_, rfl, by (simp only [AV.ren, beN, List.getD_eq_getElem?_getD, List.getElem?_drop]), rfl⟩, ⟨_, rfl, by first | rfl | (simp only [AV.ren]; congr 1; omega), rfl⟩, ⟨_, rfl, by first | rfl | (simp only [AV.ren]; congr 1; omega), rfl⟩, trivial⟩ ⟨⟨_, _, rfl, rfl, by first | rfl | (simp only [AV.ren]; congr 1; omega), rfl, id, rfl⟩, trivial⟩⟩
 ·simp only [decide_eq_false_iff_not] at hc8
  refine .exit ?_
  have ej : j = n := by omega
  refine Ev.weak (st2 := ⟨[(0, .sl 500 o n 1), (3, .u64 (beN (l.drop o) (n))), (6, .i64 (n : Int)), (7, .i64 (((n) : Nat) : Int))], [(500, some ⟨.aggB l, e, false⟩)], 1000⟩) (StLe.mk [] rfl rfl ⟨⟨_, rfl, by first | (simp only [AV.ren]; done) | (simp only [AV.ren]; rw [ej]; done) | rfl, rfl⟩, ⟨_, rfl, by first | (simp only [AV.ren]; done) | (simp only [AV.ren]; rw [ej]; done) | rfl, rfl⟩, ⟨_, rfl, by first | (simp only [AV.ren]; done) | (simp only [AV.ren]; rw [ej]; done) | rfl, rfl⟩, ⟨_, rfl, by first | (simp only [AV.ren]; done) | (simp only [AV.ren]; rw [ej]; done) | rfl, rfl⟩, trivial⟩ ⟨⟨_, _, rfl, rfl, by first | (simp only [AV.ren]; done) | (simp only [AV.ren]; rw [ej]; done) | rfl, rfl, id, rfl⟩, trivial⟩) <| .seq <| .region <| .m rfl rfl <| .s rfl rfl <| .nil <| .ret ?_
  exact iY rfl (.inl rfl) rfl rfl ⟨rfl, trivial⟩
set_option maxHeartbeats 1000000 in
set_option maxRecDepth 100000 in
theorem sched_ev (bs : List UInt8) (e : Nat) (hb : bs.length = 128) : mZ Tryz.prog 105 [.sl 500 0 128 1] [(500, some ⟨.aggB bs, e, false⟩)] (.agg64 (xW (mW bs 16) 64)) [] := by
 obtain ⟨R, hR⟩ : ∃ R, xW (mW bs 16) 64 = R := ⟨_, rfl⟩
 have hlR : R.length = 80 := by rw [← hR, ← sched_all, length_schN]; exact length_wdN bs 16
 rw [hR]
 refine eZ (nt := 68) Tryz.func105 rfl rfl (Nat.le_of_ble_eq_true rfl) <| .seq <| .region <| .y (dZ zero118 rel_zero118 rfl) rfl <| .nil <| .seq <| .region <| .y (dZ zero118 rel_zero118 rfl) rfl <| .nil <| .seq <| .seq <| .region <| .m rfl rfl <| .nil <| .block <| Ev.loop (ι := { j : Nat // j ≤ 16 }) (fun j => ⟨[(0, .sl 500 0 128 1), (2, .ptr 1000 0), (3, .ptr 1008 0), (10, .i64 ((j.1 : Nat) : Int))], [(500, some ⟨.aggB bs, e, false⟩), (1000, some ⟨.agg64 (List.replicate 80 0), 118, true⟩), (1008, some ⟨.agg64 (wdN bs j.1), 118, true⟩)], 1016⟩) (fun j => 16 - j.1) ⟨0, Nat.zero_le _⟩ (StLe.mk [(1000, 1000), (1008, 1008)] rfl rfl ⟨⟨_, rfl, by first | rfl | (simp only [AV.ren]; congr 1; omega), rfl⟩, ⟨_, rfl, by first | rfl | (simp only [AV.ren]; congr 1; omega), rfl⟩, ⟨_, rfl, by first | rfl | (simp only [AV.ren]; congr 1; omega), rfl⟩, ⟨_, rfl, by first | rfl | (simp only [AV.ren]; congr 1; omega), rfl⟩, trivial⟩ ⟨⟨_, _, rfl, rfl, by first | rfl | (simp only [AV.ren]; congr 1; omega), rfl, id, rfl⟩, ⟨_, _, rfl, rfl, by first | rfl | (simp only [AV.ren]; congr 1; omega), rfl, id, rfl⟩, ⟨_, _, rfl, rfl, by first | rfl | (simp only [AV.ren]; congr 1; omega), rfl, id, rfl⟩, trivial⟩) ?_
 rintro ⟨j, hj⟩
 dsimp only
 have hl : (wdN bs j).length = 80 := length_wdN bs j
 refine .seq <| .region <| .x (iZ rfl rfl rfl) rfl <| .nil <| .seq <| .cond rfl (fun hc11 => ?_) (fun hc11 => ?_)
 ·simp only [decide_eq_true_eq] at hc11
  refine .skip <| .seq <| .block <| .seq <| .region <| .m rfl rfl <| .s rfl rfl <| .nil <| .region <| .m rfl rfl <| .m rfl rfl <| .m rfl rfl <| .x (dX rfl rfl ⟨by omega, by omega⟩) rfl <| .m rfl rfl <| .x (dX rfl rfl ⟨by omega, by omega⟩) rfl <| .x (lZ rfl rfl ⟨by omega, by omega⟩) rfl <| .x (op_slice_sl Tryz.underlying25 inf5.sz rfl (oY rfl (l := 8 * j) (by omega)) (oY rfl (l := 8 * j + 8) (by omega)) (by omega) (by omega)) rfl <| .as (.sl 500 (8 * j) 8 1) (slice_as2 (by omega) (by omega)) <| .x (aZ (U := []) [(500, 500)] [] (hread_ev bs (8 * j) 8 e (by omega) (by omega)) Tryz.func122 (by kernel_rfl) rfl rfl rfl (⟨⟨_, rfl, rfl, rfl⟩, trivial⟩) (⟨⟨_, _, rfl, rfl, rfl, rfl, (fun h => by cases h), rfl⟩, trivial⟩) (trivial) (⟨(fun h => by cases h), trivial⟩) rfl) rfl <| .as (.u64 (be64z ((bs.drop (8 * j)).take 8))) (congrArg AV.u64 (beN_take _ 8 (by rw [List.length_drop]; omega))) <| .x (jZ Tryz.underlying118 uZ.sz rfl rfl rfl (by omega)) rfl <| .w (qY uZ.sz rfl rfl rfl rfl rfl (by simp only [AV.len]; omega)) trivial rfl <| .nil <| .region <| .x (lZ rfl rfl ⟨by omega, by omega⟩) rfl <| .m rfl rfl <| .nil ?_
  exact ⟨⟨j + 1, by omega⟩, by show 16 - (j + 1) < 16 - j; omega, StLe.mk [(1000, 1000), (1008, 1008)] rfl rfl ⟨⟨_, rfl, by first | rfl | (simp only [AV.ren]; congr 1; omega), rfl⟩, ⟨_, rfl, by first | rfl | (simp only [AV.ren]; congr 1; omega), rfl⟩, ⟨_, rfl, by first | rfl | (simp only [AV.ren]; congr 1; omega), rfl⟩, ⟨_, rfl, by first | rfl | (simp only [AV.ren]; congr 1; omega), rfl⟩, trivial⟩ ⟨⟨_, _, rfl, rfl, by first | rfl | (simp only [AV.ren]; congr 1; omega), rfl, id, rfl⟩, ⟨_, _, rfl, rfl, by first | rfl | (simp only [AV.ren]; congr 1; omega), rfl, id, rfl⟩, ⟨_, _, rfl, rfl, by first | rfl | (simp only [AV.ren]; congr 1; omega), rfl, id, rfl⟩, trivial⟩⟩
 ·simp only [decide_eq_false_iff_not] at hc11
  refine .exit ?_
  have ej : j = 16 := by omega
  refine Ev.weak (st2 := ⟨[(0, .sl 500 0 128 1), (2, .ptr 1000 0), (3, .ptr 1008 0), (10, .i64 (((16) : Nat) : Int))], [(500, some ⟨.aggB bs, e, false⟩), (1000, some ⟨.agg64 (List.replicate 80 0), 118, true⟩), (1008, some ⟨.agg64 (wdN bs (16)), 118, true⟩)], 1016⟩) (StLe.mk [(1000, 1000), (1008, 1008)] rfl rfl ⟨⟨_, rfl, by first | (simp only [AV.ren]; done) | (simp only [AV.ren]; rw [ej]; done) | rfl, rfl⟩, ⟨_, rfl, by first | (simp only [AV.ren]; done) | (simp only [AV.ren]; rw [ej]; done) | rfl, rfl⟩, ⟨_, rfl, by first | (simp only [AV.ren]; done) | (simp only [AV.ren]; rw [ej]; done) | rfl, rfl⟩, ⟨_, rfl, by first | (simp only [AV.ren]; done) | (simp only [AV.ren]; rw [ej]; done) | rfl, rfl⟩, trivial⟩ ⟨⟨_, _, rfl, rfl, by first | (simp only [AV.ren]; done) | (simp only [AV.ren]; rw [ej]; done) | rfl, rfl, id, rfl⟩, ⟨_, _, rfl, rfl, by first | (simp only [AV.ren]; done) | (simp only [AV.ren]; rw [ej]; done) | rfl, rfl, id, rfl⟩, ⟨_, _, rfl, rfl, by first | (simp only [AV.ren]; done) | (simp only [AV.ren]; rw [ej]; done) | rfl, rfl, id, rfl⟩, trivial⟩) <| .seq <| .seq <| .region <| .m rfl rfl <| .nil <| .block <| Ev.loop (ι := { j : Nat // j ≤ 64 }) (fun j => ⟨[(2, .ptr 1000 0), (3, .ptr 1008 0), (24, .i64 ((j.1 : Nat) : Int))], [(500, some ⟨.aggB bs, e, false⟩), (1000, some ⟨.agg64 (List.replicate 80 0), 118, true⟩), (1008, some ⟨.agg64 (schN (wdN bs 16) j.1), 118, true⟩)], 1016⟩) (fun j => 64 - j.1) ⟨0, Nat.zero_le _⟩ (StLe.mk [(1000, 1000), (1008, 1008)] rfl rfl ⟨⟨_, rfl, by first | rfl | (simp only [AV.ren]; congr 1; omega), rfl⟩, ⟨_, rfl, by first | rfl | (simp only [AV.ren]; congr 1; omega), rfl⟩, ⟨_, rfl, by first | rfl | (simp only [AV.ren]; congr 1; omega), rfl⟩, trivial⟩ ⟨⟨_, _, rfl, rfl, by first | rfl | (simp only [AV.ren]; congr 1; omega), rfl, id, rfl⟩, ⟨_, _, rfl, rfl, by first | rfl | (simp only [AV.ren]; congr 1; omega), rfl, id, rfl⟩, ⟨_, _, rfl, rfl, by first | rfl | (simp only [AV.ren]; congr 1; omega), rfl, id, rfl⟩, trivial⟩) ?_
  rintro ⟨j, hj⟩
  dsimp only
  have hl : (schN (wdN bs 16) j).length = 80 := by rw [length_schN]; exact length_wdN bs 16
  refine .seq <| .region <| .x (iZ rfl rfl rfl) rfl <| .nil <| .seq <| .cond rfl (fun hc25 => ?_) (fun hc25 => ?_)
  ·simp only [decide_eq_true_eq] at hc25
   refine .skip <| .seq <| .block <| .seq <| .region <| .m rfl rfl <| .s rfl rfl <| .nil <| .seq <| .drawn [[], [0], [0, 1], [0, 1, 2], [], [4], [4, 5], [4, 5, 6], [0, 1, 2, 3], [0, 1, 2, 3, 4, 5, 6, 7, 8]] [3, 7] [] (by kernel_rfl) (by kernel_rfl) rfl <| .q rfl (fZ rfl) trivial <| .q rfl (lZ rfl rfl ⟨by omega, by omega⟩) trivial <| .q rfl (jZ Tryz.underlying118 uZ.sz rfl rfl (i := j + 1) (by omega) (by omega)) trivial <| .q rfl (kZ Tryz.underlying52 rfl rfl rfl rfl (by show _ < (schN (wdN bs 16) j).length; omega)) trivial <| .q rfl (fZ rfl) trivial <| .q rfl (lZ rfl rfl ⟨by omega, by omega⟩) trivial <| .q rfl (jZ Tryz.underlying118 uZ.sz rfl rfl (i := j + 14) (by omega) (by omega)) trivial <| .q rfl (kZ Tryz.underlying52 rfl rfl rfl rfl (by show _ < (schN (wdN bs 16) j).length; omega)) trivial <| .q rfl (zZ rfl) trivial <| .q rfl (zZ rfl) trivial <| .nil <| .seq <| .region <| .m rfl rfl <| .x (aZ (U := []) [] [] (rot_ev _ 1 (by decide) (by decide)) Tryz.func106 (by kernel_rfl) rfl rfl rfl (⟨⟨_, rfl, rfl, rfl⟩, ⟨_, rfl, rfl, rfl⟩, trivial⟩) (trivial) (trivial) (trivial) rfl) rfl <| .m rfl rfl <| .x (aZ (U := []) [] [] (rot_ev _ 8 (by decide) (by decide)) Tryz.func106 (by kernel_rfl) rfl rfl rfl (⟨⟨_, rfl, rfl, rfl⟩, ⟨_, rfl, rfl, rfl⟩, trivial⟩) (trivial) (trivial) (trivial) rfl) rfl <| .x (qZ rfl rfl rfl) rfl <| .m rfl rfl <| .x (qX (n := 7) rfl rfl rfl (by decide)) rfl <| .x (qZ rfl rfl rfl) rfl <| .s rfl rfl <| .nil <| .seq <| .region <| .m rfl rfl <| .x (aZ (U := []) [] [] (rot_ev _ 19 (by decide) (by decide)) Tryz.func106 (by kernel_rfl) rfl rfl rfl (⟨⟨_, rfl, rfl, rfl⟩, ⟨_, rfl, rfl, rfl⟩, trivial⟩) (trivial) (trivial) (trivial) rfl) rfl <| .m rfl rfl <| .x (aZ (U := []) [] [] (rot_ev _ 61 (by decide) (by decide)) Tryz.func106 (by kernel_rfl) rfl rfl rfl (⟨⟨_, rfl, rfl, rfl⟩, ⟨_, rfl, rfl, rfl⟩, trivial⟩) (trivial) (trivial) (trivial) rfl) rfl <| .x (qZ rfl rfl rfl) rfl <| .m rfl rfl <| .x (qX (n := 6) rfl rfl rfl (by decide)) rfl <| .x (qZ rfl rfl rfl) rfl <| .s rfl rfl <| .nil <| .drawn [[], [0], [], [], [3], [3, 4], [3, 4, 5], [2, 3, 4, 5, 6], [], [2, 3, 4, 5, 6, 7, 8], [], [10], [10, 11], [2, 3, 4, 5, 6, 7, 8, 9, 10, 11, 12], [0, 1, 2, 3, 4, 5, 6, 7, 8, 9, 10, 11, 12, 13], [0, 1, 2, 3, 4, 5, 6, 7, 8, 9, 10, 11, 12, 13, 14]] [6, 12, 15] [15] (by kernel_rfl) (by kernel_rfl) rfl <| .q rfl (fZ rfl) trivial <| .q rfl (lZ rfl rfl ⟨by omega, by omega⟩) trivial <| .q rfl (fZ rfl) trivial <| .q rfl (fZ rfl) trivial <| .q rfl (lZ rfl rfl ⟨by omega, by omega⟩) trivial <| .q rfl (jZ Tryz.underlying118 uZ.sz rfl rfl (i := j + 9) (by omega) (by omega)) trivial <| .q rfl (kZ Tryz.underlying52 rfl rfl rfl rfl (by show _ < (schN (wdN bs 16) j).length; omega)) trivial <| .q rfl (qZ rfl rfl rfl) trivial <| .q rfl (fZ rfl) trivial <| .q rfl (qZ rfl rfl rfl) trivial <| .q rfl (fZ rfl) trivial <| .q rfl (jZ Tryz.underlying118 uZ.sz rfl rfl rfl (by omega)) trivial <| .q rfl (kZ Tryz.underlying52 rfl rfl rfl rfl (by show _ < (schN (wdN bs 16) j).length; omega)) trivial <| .q rfl (qZ rfl rfl rfl) trivial <| .q rfl (jZ Tryz.underlying118 uZ.sz rfl rfl (i := j + 16) (by omega) (by omega)) trivial <| .w rfl (qY uZ.sz rfl rfl rfl rfl rfl (by show _ < (schN (wdN bs 16) j).length; omega)) trivial rfl rfl <| .nil <| .region <| .x (lZ rfl rfl ⟨by omega, by omega⟩) rfl <| .m rfl rfl <| .nil ?_
   exact ⟨⟨j + 1, by omega⟩, by show 64 - (j + 1) < 64 - j; omega, StLe.mk [(1000, 1000), (1008, 1008)] rfl rfl ⟨⟨_, rfl, by first | rfl | (simp only [AV.ren]; congr 1; omega), rfl⟩, ⟨_, rfl, by first | rfl | (simp only [AV.ren]; congr 1; omega), rfl⟩, ⟨_, rfl, by first | rfl | (simp only [AV.ren]; congr 1; omega), rfl⟩, trivial⟩ ⟨⟨_, _, rfl, rfl, by first | rfl | (simp only [AV.ren]; congr 1; omega), rfl, id, rfl⟩, ⟨_, _, rfl, rfl, by first | rfl | (simp only [AV.ren]; congr 1; omega), rfl, id, rfl⟩, ⟨_, _, rfl, rfl, by first | rfl | (simp only [AV.ren]; congr 1; omega), rfl, id, rfl⟩, trivial⟩⟩
  ·simp only [decide_eq_false_iff_not] at hc25
   refine .exit ?_
   have ej : j = 64 := by omega
   refine Ev.weak (st2 := ⟨[(2, .ptr 1000 0), (3, .ptr 1008 0), (24, .i64 (((64) : Nat) : Int))], [(500, some ⟨.aggB bs, e, false⟩), (1000, some ⟨.agg64 (List.replicate 80 0), 118, true⟩), (1008, some ⟨.agg64 (schN (wdN bs 16) (64)), 118, true⟩)], 1016⟩) (StLe.mk [(1000, 1000), (1008, 1008)] rfl rfl ⟨⟨_, rfl, by first | (simp only [AV.ren]; done) | (simp only [AV.ren]; rw [ej]; done) | rfl, rfl⟩, ⟨_, rfl, by first | (simp only [AV.ren]; done) | (simp only [AV.ren]; rw [ej]; done) | rfl, rfl⟩, ⟨_, rfl, by first | (simp only [AV.ren]; done) | (simp only [AV.ren]; rw [ej]; done) | rfl, rfl⟩, trivial⟩ ⟨⟨_, _, rfl, rfl, by first | (simp only [AV.ren]; done) | (simp only [AV.ren]; rw [ej]; done) | rfl, rfl, id, rfl⟩, ⟨_, _, rfl, rfl, by first | (simp only [AV.ren]; done) | (simp only [AV.ren]; rw [ej]; done) | rfl, rfl, id, rfl⟩, ⟨_, _, rfl, rfl, by first | (simp only [AV.ren]; done) | (simp only [AV.ren]; rw [ej]; done) | rfl, rfl, id, rfl⟩, trivial⟩) <| .seq <| .region <| .x (bZ Tryz.underlying118 rfl sz118 rfl rfl rfl (by show (schN (wdN bs 16) 64).length = 80; rw [length_schN]; exact length_wdN bs 16)) rfl <| .as (.agg64 R) (congrArg AV.agg64 ((sched_all bs).trans hR)) <| .w (cZ sz118 rfl rfl rfl rfl rfl (by exact hlR) (by exact List.length_replicate)) trivial rfl <| .nil <| .ret ?_
   exact fX rfl (.inl rfl) ⟨_, _, _, _, rfl, rfl, rfl, rfl, (hlR), Tryz.underlying118, rfl, sz118⟩ trivial
end Go.Proofs.YtcnjekoidgefpaaGreatDoor
