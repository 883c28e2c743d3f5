/-
  Texts of this claim.
-/
import Derived.Test.YtcnjekoidgefpaaGreatDoorGEV
import Derived.Test.YtcnjekoidgefpaaGreatDoorGSV
namespace Go.Proofs.YtcnjekoidgefpaaGreatDoor
open Go.RowKit
def stl (s : St64) : List UInt64 := [s.v0, s.v1, s.v2, s.v3, s.v4, s.v5, s.v6, s.v7]
theorem neg_and (n : Nat) (h1 : 1 ≤ n) (h2 : n ≤ 63) : ofI64 (-(n : Int)) &&& UInt64.ofNat 63 = UInt64.ofNat (64 - n) := by
  apply UInt64.toNat_inj.1
  rw [UInt64.toNat_and, show (UInt64.ofNat 63).toNat = 2 ^ 6 - 1 from rfl, Nat.and_two_pow_sub_one_eq_mod, UInt64.toNat_ofNat_of_lt' (show 64 - n < 2 ^ 64 by omega)]
  unfold ofI64
  rw [UInt64.toNat_ofNat_of_lt' (by show _ < 18446744073709551616; omega)]
  omega
theorem sub_64 (n : Nat) (h1 : 1 ≤ n) (h2 : n ≤ 63) : UInt64.ofNat 64 - UInt64.ofNat (64 - n) = UInt64.ofNat n := by
  apply UInt64.toNat_inj.1
  rw [UInt64.toNat_sub, UInt64.toNat_ofNat_of_lt' (show 64 - n < 2 ^ 64 by omega), UInt64.toNat_ofNat_of_lt' (show n < 2 ^ 64 by omega), show (UInt64.ofNat 64).toNat = 64 from rfl]
  omega
def beN (l : List UInt8) : Nat → UInt64
  | 0 => UInt64.ofNat 0
  | n + 1 => (beN l n <<< UInt64.ofNat 8) ||| (l.getD n 0).toUInt64
theorem beN_take (l : List UInt8) (n : Nat) (h : n ≤ l.length) : beN l n = yN (l.take n) := by
  induction n with
  | zero => rfl
  | succ n ih =>
    have e : l.take (n + 1) = l.take n ++ [l.getD n 0] := by
      rw [List.take_succ_eq_append_getElem (by omega)]
      simp [List.getD_eq_getElem?_getD, show n < l.length by omega]
    rw [e, beN, ih (by omega)]
    simp [yN, List.foldl_append]
def schN (l : List UInt64) : Nat → List UInt64
  | 0 => l
  | n + 1 => (schN l n).set (n + 16) (sig1_64 ((schN l n).getD (n + 14) 0) + (schN l n).getD (n + 9) 0 + sig0_64 ((schN l n).getD (n + 1) 0) + (schN l n).getD n 0)
theorem bQ (l : List UInt64) (n : Nat) : (schN l n).length = l.length := by induction n with | zero => rfl | succ n ih => simp [schN, ih]
def wdN (bs : List UInt8) : Nat → List UInt64
  | 0 => List.replicate 80 0
  | n + 1 => (wdN bs n).set n (yN ((bs.drop (8 * n)).take 8))
theorem fR (bs : List UInt8) (n : Nat) : (wdN bs n).length = 80 := by induction n with | zero => rfl | succ n ih => simp [wdN, ih]
theorem wd_words (bs : List UInt8) (n : Nat) (h : n ≤ 80) : wdN bs n = iW bs n ++ List.replicate (80 - n) 0 := by
  induction n with
  | zero => simp [wdN, iW]
  | succ n ih =>
    have hl : (iW bs n).length = n := by simp [iW]
    rw [wdN, ih (by omega), aN, show 80 - n = (80 - (n + 1)) + 1 by omega, List.replicate_succ]
    have := set_at (iW bs n) (List.replicate (80 - (n + 1)) (0 : UInt64)) 0 (yN ((bs.drop (8 * n)).take 8))
    rw [hl] at this
    rw [this]; simp
theorem length_sched (l : List UInt64) (n : Nat) : (uW l n).length = l.length + n := by
  induction n with
  | zero => rfl
  | succ n ih => simp [uW, xR, ih]; omega
theorem sch_sched (l : List UInt64) (hl : l.length = 16) (m n : Nat) (h : n + m = 64) : schN (l ++ List.replicate 64 0) n = uW l n ++ List.replicate m 0 := by
  induction n generalizing m with
  | zero => have : m = 64 := by omega
            subst this; rfl
  | succ n ih =>
    have hs := length_sched l n
    have g : ∀ i, i < 16 + n → (uW l n ++ List.replicate (m + 1) (0 : UInt64)).getD i 0 = (uW l n).getD i 0 := fun i hi => by
      rw [List.getD_eq_getElem?_getD, List.getElem?_append_left (by omega), ← List.getD_eq_getElem?_getD]
    rw [schN, ih (m + 1) (by omega), g _ (by omega), g _ (by omega), g _ (by omega), g _ (by omega), List.replicate_succ]
    have := set_at (uW l n) (List.replicate m (0 : UInt64)) 0 (sig1_64 ((uW l n).getD (n + 14) 0) + (uW l n).getD (n + 9) 0 + sig0_64 ((uW l n).getD (n + 1) 0) + (uW l n).getD n 0)
    rw [hs, hl, Nat.add_comm 16 n] at this
    rw [this]; simp [uW, xR]
theorem jK (bs : List UInt8) : schN (wdN bs 16) 64 = uW (iW bs 16) 64 := by
  have hl : (iW bs 16).length = 16 := by simp [iW]
  rw [wd_words bs 16 (by omega), sch_sched _ hl 0 64 rfl]; simp
def adH (h v : List UInt64) : Nat → List UInt64
  | 0 => h
  | n + 1 => (adH h v n).set n ((adH h v n).getD n 0 + v.getD n 0)
theorem length_adH (h v : List UInt64) (n : Nat) : (adH h v n).length = h.length := by induction n with | zero => rfl | succ n ih => simp [adH, ih]
theorem adH_stl (s r : St64) : adH (stl s) (stl r) 8 = stl (addSt64 s r) := by
  simp only [adH, stl, addSt64, List.set_cons_zero, List.set_cons_succ, List.getD_cons_zero, List.getD_cons_succ]
set_option maxRecDepth 100000 in
theorem rotl_ev (x : UInt64) (n : Nat) (h1 : 1 ≤ n) (h2 : n ≤ 63) : kZ Tryz.prog 123 [.u64 x, .i64 (-(n : Int))] [] (.u64 (yV x n)) [] := by
 refine mt (nt := 17) Tryz.func123 rfl rfl rfl <| .r <| .s rfl rfl <| .nil <| .r <| .m rfl rfl <| .x (vX Tryz.underlying3 Tryz.underlying130 rfl rfl) rfl <| .x (mZ rfl rfl rfl) rfl <| .as (.u64 (UInt64.ofNat (64 - n))) (congrArg AV.u64 (neg_and n h1 h2)) <| .s rfl rfl <| .nil <| .r <| .m rfl rfl <| .m rfl rfl <| .x (aR (n := 64 - n) rfl rfl (by simp only [tW]; first | rfl | (rw [UInt64.toNat_ofNat_of_lt' (show 64 - n < 2 ^ 64 by omega)]) | (simp; omega)) (by omega)) rfl <| .m rfl rfl <| .m rfl rfl <| .x (mZ rfl rfl rfl) rfl <| .as (.u64 (UInt64.ofNat n)) (congrArg AV.u64 (sub_64 n h1 h2)) <| .x (lX (n := n) rfl rfl (by simp only [tW]; first | rfl | (rw [UInt64.toNat_ofNat_of_lt' (show n < 2 ^ 64 by omega)]) | (simp; omega)) (by omega)) rfl <| .x (mZ rfl rfl rfl) rfl <| .s rfl rfl <| .nil <| .ret ?_
 exact yZ rfl (.inl rfl) rfl rfl trivial
set_option maxRecDepth 100000 in
theorem eQ (x : UInt64) (n : Nat) (h1 : 1 ≤ n) (h2 : n ≤ 63) : kZ Tryz.prog 106 [.u64 x, .i64 (n : Int)] [] (.u64 (yV x n)) [] := by
 refine mt (nt := 9) Tryz.func106 rfl rfl rfl <| .r <| .s rfl rfl <| .nil <| .r <| .m rfl rfl <| .m rfl rfl <| .x (op_negI rfl ⟨by omega, by omega⟩) rfl <| .as (.i64 (-(n : Int))) (congrArg AV.i64 (by omega)) <| .x (aZ (U := []) [] [] (rotl_ev x n h1 h2) Tryz.func123 (by kernel_rfl) rfl rfl rfl (⟨⟨_, rfl, rfl, rfl⟩, ⟨_, rfl, rfl, rfl⟩, trivial⟩) (trivial) (trivial) (trivial) rfl) rfl <| .s rfl rfl <| .nil <| .ret ?_
 exact yZ rfl (.inl rfl) rfl rfl trivial
set_option maxRecDepth 100000 in
theorem hread_ev (l : List UInt8) (o n e : Nat) (h : o + n ≤ l.length) (hn : n ≤ 8) : kZ Tryz.prog 122 [.sl 500 o n 1] [(500, some ⟨.aggB l, e, false⟩)] (.u64 (beN (l.drop o) n)) [(500, some ⟨.aggB l, e, false⟩)] := by
 refine mt (nt := 20) Tryz.func122 rfl rfl rfl <| .r <| .s rfl rfl <| .nil <| .r <| .s rfl rfl <| .nil <| .seq <| .r <| .m rfl rfl <| .x (rZ Tryz.underlying25 rfl) rfl <| .m rfl rfl <| .nil <| .block <| Ev.loop (ι := { j : Nat // j ≤ n }) (fun j => ⟨[(0, .sl 500 o n 1), (3, .u64 (beN (l.drop o) j.1)), (6, .i64 (n : Int)), (7, .i64 ((j.1 : Nat) : Int))], [(500, some ⟨.aggB l, e, false⟩)], 1000⟩) (fun j => n - j.1) ⟨0, Nat.zero_le _⟩ (StLe.mk [] rfl rfl ⟨⟨_, rfl, by first | rfl | (simp only [AV.ren]; congr 1; omega), rfl⟩, ⟨_, rfl, by first | rfl | (simp only [AV.ren]; congr 1; omega), rfl⟩, ⟨_, rfl, by first | rfl | (simp only [AV.ren]; congr 1; omega), rfl⟩, ⟨_, rfl, by first | rfl | (simp only [AV.ren]; congr 1; omega), rfl⟩, trivial⟩ ⟨⟨_, _, rfl, rfl, by first | rfl | (simp only [AV.ren]; congr 1; omega), rfl, id, rfl⟩, trivial⟩) ?_
 rintro ⟨j, hj⟩
 dsimp only
 refine .r <| .x (gZ rfl rfl rfl) rfl <| .nil <| .seq <| .cond rfl (fun hc8 => ?_) (fun hc8 => ?_)
 ·simp only [decide_eq_true_eq] at hc8
  refine .skip <| .seq <| .block <| .r <| .m rfl rfl <| .s rfl rfl <| .nil <| .region <| .m rfl rfl <| .x (aR (n := 8) rfl rfl rfl (by decide)) rfl <| .m rfl rfl <| .m rfl rfl <| .x (jQ Tryz.underlying25 inf5.sz rfl rfl rfl (by omega)) rfl <| .x (fZ Tryz.underlying5 rfl rfl rfl rfl (by simp only [AV.len]; omega)) rfl <| .x (vX Tryz.underlying5 Tryz.underlying52 rfl rfl) rfl <| .x (mZ rfl rfl rfl) rfl <| .s rfl rfl <| .nil <| .region <| .x (jZ rfl rfl ⟨by omega, by omega⟩) rfl <| .m rfl rfl <| .nil ?_
  exact ⟨⟨j + 1, by omega⟩, by show n - (j + 1) < n - j; omega, StLe.mk [] rfl rfl ⟨⟨_, rfl, by first | rfl | (simp only [AV.ren]; congr 1; omega), rfl⟩, ⟨_, rfl, by (simp only [AV.ren, beN, List.getD_eq_getElem?_getD, List.getElem?_drop]), rfl⟩, ⟨_, rfl, by first | rfl | (simp only [AV.ren]; congr 1; omega), rfl⟩, ⟨_, rfl, by first | rfl | (simp only [AV.ren]; congr 1; omega), rfl⟩, trivial⟩ ⟨⟨_, _, rfl, rfl, by first | rfl | (simp only [AV.ren]; congr 1; omega), rfl, id, rfl⟩, trivial⟩⟩
 ·simp only [decide_eq_false_iff_not] at hc8
  refine .exit ?_
  have ej : j = n := by omega
  refine Ev.weak (st2 := ⟨[(0, .sl 500 o n 1), (3, .u64 (beN (l.drop o) (n))), (6, .i64 (n : Int)), (7, .i64 (((n) : Nat) : Int))], [(500, some ⟨.aggB l, e, false⟩)], 1000⟩) (StLe.mk [] rfl rfl ⟨⟨_, rfl, by first | (simp only [AV.ren]; done) | (simp only [AV.ren]; rw [ej]; done) | rfl, rfl⟩, ⟨_, rfl, by first | (simp only [AV.ren]; done) | (simp only [AV.ren]; rw [ej]; done) | rfl, rfl⟩, ⟨_, rfl, by first | (simp only [AV.ren]; done) | (simp only [AV.ren]; rw [ej]; done) | rfl, rfl⟩, ⟨_, rfl, by first | (simp only [AV.ren]; done) | (simp only [AV.ren]; rw [ej]; done) | rfl, rfl⟩, trivial⟩ ⟨⟨_, _, rfl, rfl, by first | (simp only [AV.ren]; done) | (simp only [AV.ren]; rw [ej]; done) | rfl, rfl, id, rfl⟩, trivial⟩) <| .r <| .m rfl rfl <| .s rfl rfl <| .nil <| .ret ?_
  exact yZ rfl (.inl rfl) rfl rfl ⟨rfl, trivial⟩
set_option maxHeartbeats 1000000 in
set_option maxRecDepth 100000 in
theorem sched_ev (bs : List UInt8) (e : Nat) (hb : bs.length = 128) : kZ Tryz.prog 105 [.sl 500 0 128 1] [(500, some ⟨.aggB bs, e, false⟩)] (.agg64 (uW (iW bs 16) 64)) [] := by
 obtain ⟨R, hR⟩ : ∃ R, uW (iW bs 16) 64 = R := ⟨_, rfl⟩
 have hlR : R.length = 80 := by rw [← hR, ← jK, bQ]; exact fR bs 16
 rw [hR]
 refine mt (nt := 68) Tryz.func105 rfl rfl rfl <| .r <| .y (dZ zero118 iO rfl) rfl <| .nil <| .r <| .y (dZ zero118 iO rfl) rfl <| .nil <| .seq <| .r <| .m rfl rfl <| .nil <| .block <| Ev.loop (ι := { j : Nat // j ≤ 16 }) (fun j => ⟨[(0, .sl 500 0 128 1), (2, .ptr 1000 0), (3, .ptr 1008 0), (10, .i64 ((j.1 : Nat) : Int))], [(500, some ⟨.aggB bs, e, false⟩), (1000, some ⟨.agg64 (List.replicate 80 0), 118, true⟩), (1008, some ⟨.agg64 (wdN bs j.1), 118, true⟩)], 1016⟩) (fun j => 16 - j.1) ⟨0, Nat.zero_le _⟩ (StLe.mk [(1000, 1000), (1008, 1008)] rfl rfl ⟨⟨_, rfl, by first | rfl | (simp only [AV.ren]; congr 1; omega), rfl⟩, ⟨_, rfl, by first | rfl | (simp only [AV.ren]; congr 1; omega), rfl⟩, ⟨_, rfl, by first | rfl | (simp only [AV.ren]; congr 1; omega), rfl⟩, ⟨_, rfl, by first | rfl | (simp only [AV.ren]; congr 1; omega), rfl⟩, trivial⟩ ⟨⟨_, _, rfl, rfl, by first | rfl | (simp only [AV.ren]; congr 1; omega), rfl, id, rfl⟩, ⟨_, _, rfl, rfl, by first | rfl | (simp only [AV.ren]; congr 1; omega), rfl, id, rfl⟩, ⟨_, _, rfl, rfl, by first | rfl | (simp only [AV.ren]; congr 1; omega), rfl, id, rfl⟩, trivial⟩) ?_
 rintro ⟨j, hj⟩
 dsimp only
 have hl : (wdN bs j).length = 80 := fR bs j
 refine .r <| .x (gZ rfl rfl rfl) rfl <| .nil <| .seq <| .cond rfl (fun hc11 => ?_) (fun hc11 => ?_)
 ·simp only [decide_eq_true_eq] at hc11
  refine .skip <| .seq <| .block <| .r <| .m rfl rfl <| .s rfl rfl <| .nil <| .region <| .m rfl rfl <| .m rfl rfl <| .m rfl rfl <| .x (uY rfl rfl ⟨by omega, by omega⟩) rfl <| .m rfl rfl <| .x (uY rfl rfl ⟨by omega, by omega⟩) rfl <| .x (jZ rfl rfl ⟨by omega, by omega⟩) rfl <| .x (bS Tryz.underlying25 inf5.sz rfl (xZ rfl (l := 8 * j) (by omega)) (xZ rfl (l := 8 * j + 8) (by omega)) (by omega) (by omega)) rfl <| .as (.sl 500 (8 * j) 8 1) (slice_as2 (by omega) (by omega)) <| .x (aZ (U := []) [(500, 500)] [] (hread_ev bs (8 * j) 8 e (by omega) (by omega)) Tryz.func122 (by kernel_rfl) rfl rfl rfl (⟨⟨_, rfl, rfl, rfl⟩, trivial⟩) (⟨⟨_, _, rfl, rfl, rfl, rfl, nf, rfl⟩, trivial⟩) (trivial) (⟨nf, trivial⟩) rfl) rfl <| .as (.u64 (yN ((bs.drop (8 * j)).take 8))) (congrArg AV.u64 (beN_take _ 8 (by rw [List.length_drop]; omega))) <| .x (iZ Tryz.underlying118 qZ.sz rfl rfl rfl (by omega)) rfl <| .w (iY qZ.sz rfl rfl rfl rfl rfl (by simp only [AV.len]; omega)) trivial rfl <| .nil <| .region <| .x (jZ rfl rfl ⟨by omega, by omega⟩) rfl <| .m rfl rfl <| .nil ?_
  exact ⟨⟨j + 1, by omega⟩, by show 16 - (j + 1) < 16 - j; omega, StLe.mk [(1000, 1000), (1008, 1008)] rfl rfl ⟨⟨_, rfl, by first | rfl | (simp only [AV.ren]; congr 1; omega), rfl⟩, ⟨_, rfl, by first | rfl | (simp only [AV.ren]; congr 1; omega), rfl⟩, ⟨_, rfl, by first | rfl | (simp only [AV.ren]; congr 1; omega), rfl⟩, ⟨_, rfl, by first | rfl | (simp only [AV.ren]; congr 1; omega), rfl⟩, trivial⟩ ⟨⟨_, _, rfl, rfl, by first | rfl | (simp only [AV.ren]; congr 1; omega), rfl, id, rfl⟩, ⟨_, _, rfl, rfl, by first | rfl | (simp only [AV.ren]; congr 1; omega), rfl, id, rfl⟩, ⟨_, _, rfl, rfl, by first | rfl | (simp only [AV.ren]; congr 1; omega), rfl, id, rfl⟩, trivial⟩⟩
 ·simp only [decide_eq_false_iff_not] at hc11
  refine .exit ?_
  have ej : j = 16 := by omega
  refine Ev.weak (st2 := ⟨[(0, .sl 500 0 128 1), (2, .ptr 1000 0), (3, .ptr 1008 0), (10, .i64 (((16) : Nat) : Int))], [(500, some ⟨.aggB bs, e, false⟩), (1000, some ⟨.agg64 (List.replicate 80 0), 118, true⟩), (1008, some ⟨.agg64 (wdN bs (16)), 118, true⟩)], 1016⟩) (StLe.mk [(1000, 1000), (1008, 1008)] rfl rfl ⟨⟨_, rfl, by first | (simp only [AV.ren]; done) | (simp only [AV.ren]; rw [ej]; done) | rfl, rfl⟩, ⟨_, rfl, by first | (simp only [AV.ren]; done) | (simp only [AV.ren]; rw [ej]; done) | rfl, rfl⟩, ⟨_, rfl, by first | (simp only [AV.ren]; done) | (simp only [AV.ren]; rw [ej]; done) | rfl, rfl⟩, ⟨_, rfl, by first | (simp only [AV.ren]; done) | (simp only [AV.ren]; rw [ej]; done) | rfl, rfl⟩, trivial⟩ ⟨⟨_, _, rfl, rfl, by first | (simp only [AV.ren]; done) | (simp only [AV.ren]; rw [ej]; done) | rfl, rfl, id, rfl⟩, ⟨_, _, rfl, rfl, by first | (simp only [AV.ren]; done) | (simp only [AV.ren]; rw [ej]; done) | rfl, rfl, id, rfl⟩, ⟨_, _, rfl, rfl, by first | (simp only [AV.ren]; done) | (simp only [AV.ren]; rw [ej]; done) | rfl, rfl, id, rfl⟩, trivial⟩) <| .seq <| .r <| .m rfl rfl <| .nil <| .block <| Ev.loop (ι := { j : Nat // j ≤ 64 }) (fun j => ⟨[(2, .ptr 1000 0), (3, .ptr 1008 0), (24, .i64 ((j.1 : Nat) : Int))], [(500, some ⟨.aggB bs, e, false⟩), (1000, some ⟨.agg64 (List.replicate 80 0), 118, true⟩), (1008, some ⟨.agg64 (schN (wdN bs 16) j.1), 118, true⟩)], 1016⟩) (fun j => 64 - j.1) ⟨0, Nat.zero_le _⟩ (StLe.mk [(1000, 1000), (1008, 1008)] rfl rfl ⟨⟨_, rfl, by first | rfl | (simp only [AV.ren]; congr 1; omega), rfl⟩, ⟨_, rfl, by first | rfl | (simp only [AV.ren]; congr 1; omega), rfl⟩, ⟨_, rfl, by first | rfl | (simp only [AV.ren]; congr 1; omega), rfl⟩, trivial⟩ ⟨⟨_, _, rfl, rfl, by first | rfl | (simp only [AV.ren]; congr 1; omega), rfl, id, rfl⟩, ⟨_, _, rfl, rfl, by first | rfl | (simp only [AV.ren]; congr 1; omega), rfl, id, rfl⟩, ⟨_, _, rfl, rfl, by first | rfl | (simp only [AV.ren]; congr 1; omega), rfl, id, rfl⟩, trivial⟩) ?_
  rintro ⟨j, hj⟩
  dsimp only
  have hl : (schN (wdN bs 16) j).length = 80 := by rw [bQ]; exact fR bs 16
  refine .r <| .x (gZ rfl rfl rfl) rfl <| .nil <| .seq <| .cond rfl (fun hc25 => ?_) (fun hc25 => ?_)
  ·simp only [decide_eq_true_eq] at hc25
   refine .skip <| .seq <| .block <| .r <| .m rfl rfl <| .s rfl rfl <| .nil <| .seq <| .drawn [[], [0], [0, 1], [0, 1, 2], [], [4], [4, 5], [4, 5, 6], [0, 1, 2, 3], [0, 1, 2, 3, 4, 5, 6, 7, 8]] [3, 7] [] (by kernel_rfl) (by kernel_rfl) rfl <| .m rfl rfl <| .x rfl (jZ rfl rfl ⟨by omega, by omega⟩) <| .x rfl (iZ Tryz.underlying118 qZ.sz rfl rfl (i := j + 1) (by omega) (by omega)) <| .x rfl (fZ Tryz.underlying52 rfl rfl rfl rfl (by show _ < (schN (wdN bs 16) j).length; omega)) <| .m rfl rfl <| .x rfl (jZ rfl rfl ⟨by omega, by omega⟩) <| .x rfl (iZ Tryz.underlying118 qZ.sz rfl rfl (i := j + 14) (by omega) (by omega)) <| .x rfl (fZ Tryz.underlying52 rfl rfl rfl rfl (by show _ < (schN (wdN bs 16) j).length; omega)) <| .x rfl (uZ rfl) <| .x rfl (uZ rfl) <| .nil <| .r <| .m rfl rfl <| .x (aZ (U := []) [] [] (eQ _ 1 (by decide) (by decide)) Tryz.func106 (by kernel_rfl) rfl rfl rfl (⟨⟨_, rfl, rfl, rfl⟩, ⟨_, rfl, rfl, rfl⟩, trivial⟩) (trivial) (trivial) (trivial) rfl) rfl <| .m rfl rfl <| .x (aZ (U := []) [] [] (eQ _ 8 (by decide) (by decide)) Tryz.func106 (by kernel_rfl) rfl rfl rfl (⟨⟨_, rfl, rfl, rfl⟩, ⟨_, rfl, rfl, rfl⟩, trivial⟩) (trivial) (trivial) (trivial) rfl) rfl <| .x (mZ rfl rfl rfl) rfl <| .m rfl rfl <| .x (lX (n := 7) rfl rfl rfl (by decide)) rfl <| .x (mZ rfl rfl rfl) rfl <| .s rfl rfl <| .nil <| .r <| .m rfl rfl <| .x (aZ (U := []) [] [] (eQ _ 19 (by decide) (by decide)) Tryz.func106 (by kernel_rfl) rfl rfl rfl (⟨⟨_, rfl, rfl, rfl⟩, ⟨_, rfl, rfl, rfl⟩, trivial⟩) (trivial) (trivial) (trivial) rfl) rfl <| .m rfl rfl <| .x (aZ (U := []) [] [] (eQ _ 61 (by decide) (by decide)) Tryz.func106 (by kernel_rfl) rfl rfl rfl (⟨⟨_, rfl, rfl, rfl⟩, ⟨_, rfl, rfl, rfl⟩, trivial⟩) (trivial) (trivial) (trivial) rfl) rfl <| .x (mZ rfl rfl rfl) rfl <| .m rfl rfl <| .x (lX (n := 6) rfl rfl rfl (by decide)) rfl <| .x (mZ rfl rfl rfl) rfl <| .s rfl rfl <| .nil <| .drawn [[], [0], [], [], [3], [3, 4], [3, 4, 5], [2, 3, 4, 5, 6], [], [2, 3, 4, 5, 6, 7, 8], [], [10], [10, 11], [2, 3, 4, 5, 6, 7, 8, 9, 10, 11, 12], [0, 1, 2, 3, 4, 5, 6, 7, 8, 9, 10, 11, 12, 13], [0, 1, 2, 3, 4, 5, 6, 7, 8, 9, 10, 11, 12, 13, 14]] [6, 12, 15] [15] (by kernel_rfl) (by kernel_rfl) rfl <| .m rfl rfl <| .x rfl (jZ rfl rfl ⟨by omega, by omega⟩) <| .m rfl rfl <| .m rfl rfl <| .x rfl (jZ rfl rfl ⟨by omega, by omega⟩) <| .x rfl (iZ Tryz.underlying118 qZ.sz rfl rfl (i := j + 9) (by omega) (by omega)) <| .x rfl (fZ Tryz.underlying52 rfl rfl rfl rfl (by show _ < (schN (wdN bs 16) j).length; omega)) <| .x rfl (mZ rfl rfl rfl) <| .m rfl rfl <| .x rfl (mZ rfl rfl rfl) <| .m rfl rfl <| .x rfl (iZ Tryz.underlying118 qZ.sz rfl rfl rfl (by omega)) <| .x rfl (fZ Tryz.underlying52 rfl rfl rfl rfl (by show _ < (schN (wdN bs 16) j).length; omega)) <| .x rfl (mZ rfl rfl rfl) <| .x rfl (iZ Tryz.underlying118 qZ.sz rfl rfl (i := j + 16) (by omega) (by omega)) <| .w rfl (iY qZ.sz rfl rfl rfl rfl rfl (by show _ < (schN (wdN bs 16) j).length; omega)) trivial rfl rfl <| .nil <| .region <| .x (jZ rfl rfl ⟨by omega, by omega⟩) rfl <| .m rfl rfl <| .nil ?_
   exact ⟨⟨j + 1, by omega⟩, by show 64 - (j + 1) < 64 - j; omega, StLe.mk [(1000, 1000), (1008, 1008)] rfl rfl ⟨⟨_, rfl, by first | rfl | (simp only [AV.ren]; congr 1; omega), rfl⟩, ⟨_, rfl, by first | rfl | (simp only [AV.ren]; congr 1; omega), rfl⟩, ⟨_, rfl, by first | rfl | (simp only [AV.ren]; congr 1; omega), rfl⟩, trivial⟩ ⟨⟨_, _, rfl, rfl, by first | rfl | (simp only [AV.ren]; congr 1; omega), rfl, id, rfl⟩, ⟨_, _, rfl, rfl, by first | rfl | (simp only [AV.ren]; congr 1; omega), rfl, id, rfl⟩, ⟨_, _, rfl, rfl, by first | rfl | (simp only [AV.ren]; congr 1; omega), rfl, id, rfl⟩, trivial⟩⟩
  ·simp only [decide_eq_false_iff_not] at hc25
   refine .exit ?_
   have ej : j = 64 := by omega
   refine Ev.weak (st2 := ⟨[(2, .ptr 1000 0), (3, .ptr 1008 0), (24, .i64 (((64) : Nat) : Int))], [(500, some ⟨.aggB bs, e, false⟩), (1000, some ⟨.agg64 (List.replicate 80 0), 118, true⟩), (1008, some ⟨.agg64 (schN (wdN bs 16) (64)), 118, true⟩)], 1016⟩) (StLe.mk [(1000, 1000), (1008, 1008)] rfl rfl ⟨⟨_, rfl, by first | (simp only [AV.ren]; done) | (simp only [AV.ren]; rw [ej]; done) | rfl, rfl⟩, ⟨_, rfl, by first | (simp only [AV.ren]; done) | (simp only [AV.ren]; rw [ej]; done) | rfl, rfl⟩, ⟨_, rfl, by first | (simp only [AV.ren]; done) | (simp only [AV.ren]; rw [ej]; done) | rfl, rfl⟩, trivial⟩ ⟨⟨_, _, rfl, rfl, by first | (simp only [AV.ren]; done) | (simp only [AV.ren]; rw [ej]; done) | rfl, rfl, id, rfl⟩, ⟨_, _, rfl, rfl, by first | (simp only [AV.ren]; done) | (simp only [AV.ren]; rw [ej]; done) | rfl, rfl, id, rfl⟩, ⟨_, _, rfl, rfl, by first | (simp only [AV.ren]; done) | (simp only [AV.ren]; rw [ej]; done) | rfl, rfl, id, rfl⟩, trivial⟩) <| .r <| .x (bZ Tryz.underlying118 rfl sz118 rfl rfl rfl (by show (schN (wdN bs 16) 64).length = 80; rw [bQ]; exact fR bs 16)) rfl <| .as (.agg64 R) (congrArg AV.agg64 ((jK bs).trans hR)) <| .w (cZ sz118 rfl rfl rfl rfl rfl (by exact hlR) (by exact List.length_replicate)) trivial rfl <| .nil <| .ret ?_
   exact yY rfl (.inl rfl) ⟨_, _, _, _, rfl, rfl, rfl, rfl, (hlR), Tryz.underlying118, rfl, sz118⟩ trivial
end Go.Proofs.YtcnjekoidgefpaaGreatDoor
