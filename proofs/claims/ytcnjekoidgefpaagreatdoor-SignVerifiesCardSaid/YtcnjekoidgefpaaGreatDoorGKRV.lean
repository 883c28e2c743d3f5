/-
  Texts of this claim.
-/
import Derived.Test.YtcnjekoidgefpaaGreatDoorGEV
import Derived.Test.YtcnjekoidgefpaaGreatDoorGBV
import Derived.Test.YtcnjekoidgefpaaGreatDoorGRV
namespace Go.Proofs.YtcnjekoidgefpaaGreatDoor
open Go.RowKit
set_option maxRecDepth 100000 in
theorem trim_ev (l : List Int) (o n : Nat) (h : o + n ≤ l.length) (hn : n ≤ 1000000) : kZ Tryz.prog 49 [.sl 500 o n 1] [(500, some ⟨.aggI l, 3, false⟩)] (.sl 500 o (tl l o n) 1) [(500, some ⟨.aggI l, 3, false⟩)] := by
 refine mt (nt := 21) Tryz.func49 rfl rfl rfl <| .r <| .s rfl rfl <| .nil <| .r <| .m rfl rfl <| .x (rZ Tryz.underlying38 rfl) rfl <| .s rfl rfl <| .nil <| .seq <| .block <| Ev.loop (ι := { k : Nat // k ≤ n ∧ tl l o k = tl l o n }) (fun q => ⟨[(0, .sl 500 o n 1), (3, .i64 ((q.1 : Nat) : Int))], [(500, some ⟨.aggI l, 3, false⟩)], 1000⟩) (fun q => q.1) ⟨n, Nat.le_refl _, rfl⟩ (StLe.mk [] rfl rfl ⟨⟨_, rfl, by first | rfl | (simp only [AV.ren]; congr 1; omega), rfl⟩, ⟨_, rfl, by first | rfl | (simp only [AV.ren]; congr 1; omega), rfl⟩, trivial⟩ ⟨⟨_, _, rfl, rfl, rfl, rfl, id, rfl⟩, trivial⟩) ?_
 rintro ⟨k, hk, hz⟩
 try dsimp only
 refine .seq <| .r <| .m rfl rfl <| .x (gZ rfl rfl rfl) rfl <| .m rfl rfl <| .split (fun hg8 => ?_) (fun hg8 => ?_)
 ·simp only [decide_eq_true_eq] at hg8
  refine .q (iX rfl) ⟨_, rfl, rfl⟩ rfl <| .q (iX rfl) ⟨_, rfl, rfl⟩ rfl <| .q (tY rfl rfl ⟨by omega, by omega⟩) ⟨_, rfl, rfl⟩ rfl <| .q (jQ Tryz.underlying38 inf3.sz rfl rfl (i := k - 1) (by omega) (by omega)) ⟨_, rfl, rfl⟩ rfl <| .q (fZ Tryz.underlying3 rfl rfl rfl rfl (by simp only [AV.len]; omega)) ⟨_, rfl, rfl⟩ rfl <| .q (gZ rfl rfl rfl) ⟨_, rfl, rfl⟩ rfl <| .x (sY rfl rfl rfl) rfl <| .nil <| .cond rfl (fun hc15 => ?_) (fun hc15 => ?_)
  ·simp only [beq_iff_eq] at hc15
   refine .skip <| .block <| .region <| .m rfl rfl <| .x (tY rfl rfl ⟨by omega, by omega⟩) rfl <| .s rfl rfl <| .nil ?_
   exact ⟨⟨k - 1, by omega, by rw [← hz]; exact tl_zero l o k (by omega) hc15⟩, by (try dsimp only); omega, StLe.mk [] rfl rfl ⟨⟨_, rfl, by rfl, rfl⟩, ⟨_, rfl, by simp only [AV.ren]; congr 1; omega, rfl⟩, trivial⟩ ⟨⟨_, _, rfl, rfl, rfl, rfl, id, rfl⟩, trivial⟩⟩
  ·simp only [ne_eq, beq_eq_false_iff_ne] at hc15
   refine .exit <| .r <| .m rfl rfl <| .m rfl rfl <| .x (lR Tryz.underlying38 inf3.sz rfl (xZ rfl rfl) (by omega)) rfl <| .s rfl rfl <| .nil <| .ret ?_
   have e := tl_stop l o k (by exact .inr hc15)
   exact yZ rfl (.inl rfl) rfl (by rw [← hz, e]) ⟨rfl, trivial⟩
 ·simp only [decide_eq_false_iff_not] at hg8
  refine .no ⟨_, rfl, rfl⟩ rfl <| .no ⟨_, rfl, rfl⟩ rfl <| .no ⟨_, rfl, rfl⟩ rfl <| .no ⟨_, rfl, rfl⟩ rfl <| .no ⟨_, rfl, rfl⟩ rfl <| .no ⟨_, rfl, rfl⟩ rfl <| .x (aY rfl rfl rfl) rfl <| .nil <| .cond_false rfl rfl <| .exit <| .r <| .m rfl rfl <| .m rfl rfl <| .x (lR Tryz.underlying38 inf3.sz rfl (xZ rfl rfl) (by omega)) rfl <| .s rfl rfl <| .nil <| .ret ?_
  have e := tl_stop l o k (by left; omega)
  exact yZ rfl (.inl rfl) rfl (by rw [← hz, e]) ⟨rfl, trivial⟩
theorem kS (n v : Nat) (h : v < 65536 ^ n) (hn : n ≤ 1000000) : kZ Tryz.prog 49 [.sl 500 0 n 1] [(500, some ⟨.aggI (dn n v), 3, false⟩)] (.sl 500 0 (dl v) 1) [(500, some ⟨.aggI (dn n v), 3, false⟩)] :=
 (trim_ev (dn n v) 0 n (by rw [gY]; omega) hn).as (by rw [tl_dn n v n (Nat.le_refl _) h])
theorem wP (n v : Nat) (h : dl v ≤ n) : (AV.aggI (dg v)).list = (AV.aggI (dn n v)).list.take (dl v) := by
 simp only [AV.list, AV.parts, Option.getD_some]
 rw [← List.map_take, dn_take n (dl v) v h]; rfl
theorem digit_cast (x k : Nat) : ((x / 65536 ^ k : Nat) : Int) % 65536 = ((x / 65536 ^ k % 65536 : Nat) : Int) := by simp
set_option maxRecDepth 100000 in
theorem kX (x : Nat) (hx : x < 9223372036854775807) : kZ Tryz.prog 42 [.i64 (x : Int)] [] (.sl 1000 0 (dl x) 1) [(1000, some ⟨.aggI (dg x), 3, true⟩)] := by
 refine mt (nt := 15) Tryz.func42 rfl rfl rfl <| .r <| .s rfl rfl <| .nil <| .r <| .y (dW (z := 1) (c := .aggI []) Tryz.underlying38 inf3 rfl) rfl <| .s rfl rfl <| .nil <| .seq <| .block <| Ev.loop (ι := { k : Nat // k ≤ dl x }) (fun q => ⟨[(0, .i64 ((x / 65536 ^ q.1 : Nat) : Int)), (3, .sl 1000 0 q.1 1)], [(1000, some ⟨.aggI (dn q.1 x), 3, true⟩)], 1008⟩) (fun q => dl x - q.1) ⟨0, Nat.zero_le _⟩ (StLe.mk [(1000, 1000)] rfl rfl ⟨⟨_, rfl, by (simp only [AV.ren]; simp), rfl⟩, ⟨_, rfl, by rfl, rfl⟩, trivial⟩ ⟨⟨_, _, rfl, rfl, rfl, rfl, id, rfl⟩, trivial⟩) ?_
 rintro ⟨k, hk⟩
 try dsimp only
 have hd := div_pos_iff x k
 have hb : x / 65536 ^ k ≤ x := Nat.div_le_self _ _
 have hl := gY k x
 have hm : dl x ≤ 4 := qX (by omega)
 refine .seq <| .r <| .m rfl rfl <| .x (gZ rfl rfl rfl) rfl <| .nil <| .cond rfl (fun hc6 => ?_) (fun hc6 => ?_)
 ·simp only [decide_eq_true_eq] at hc6
  refine .skip <| .block <| .r <| .m rfl rfl <| .m rfl rfl <| .x (qY rfl rfl ⟨by omega, by omega⟩) rfl <| .y (vZ (us := [_]) (c := .aggI [_]) Tryz.underlying38 inf3 rfl (by decide) (by decide) ⟨rfl, rfl, rfl, trivial⟩ rfl) rfl <| .y (aX Tryz.underlying38 inf3 rfl rfl rfl rfl (by simp only [AV.len, gY]; done) rfl rfl (by simp [AV.len]; done) rfl (by omega)) rfl <| .s rfl rfl <| .nil <| .region <| .m rfl rfl <| .x (pY rfl rfl ⟨by omega, ⟨by omega, by omega⟩, by omega⟩) rfl <| .s rfl rfl <| .nil ?_
  exact ⟨⟨k + 1, by omega⟩, by (try dsimp only); omega, StLe.mk [(1000, 1016)] rfl rfl ⟨⟨_, rfl, by (simp only [AV.ren]; congr 1; rw [Nat.pow_succ, ← Nat.div_div_eq_div_mul]; simp), rfl⟩, ⟨_, rfl, by rfl, rfl⟩, trivial⟩ ⟨⟨_, _, rfl, rfl, by (simp only [AV.ren]; rw [rT, digit_cast]), rfl, id, rfl⟩, trivial⟩⟩
 ·simp only [decide_eq_false_iff_not] at hc6
  refine .exit <| .r <| .m rfl rfl <| .s rfl rfl <| .nil <| .ret ?_
  have e : k = dl x := by omega
  exact yZ rfl (.inl rfl) rfl (by rw [e]) ⟨(by rw [e]; rfl), trivial⟩
set_option maxHeartbeats 1000000 in
set_option maxRecDepth 100000 in
theorem wU (a b : Nat) (ha : dl a ≤ 1000) (hb : dl b ≤ 1000) : kZ Tryz.prog 72 [.sl 500 0 (dl a) 1, .sl 501 0 (dl b) 1] [(500, some ⟨.aggI (dg a), 3, false⟩), (501, some ⟨.aggI (dg b), 3, false⟩)] (.sl 1000 0 (dl (a + b)) 1) [(1000, some ⟨.aggI (dg (a + b)), 3, true⟩)] := by
 refine mt (nt := 54) Tryz.func72 rfl rfl rfl <| .r <| .s rfl rfl <| .nil <| .r <| .y (dW (z := 1) (c := .aggI []) Tryz.underlying38 inf3 rfl) rfl <| .s rfl rfl <| .nil <| .r <| .s rfl rfl <| .nil <| .seq <| .r <| .s rfl rfl <| .nil <| .block <| Ev.loop (ι := { k : Nat // k ≤ dl a + dl b + 1 }) (fun q => ⟨[(0, .sl 500 0 (dl a) 1), (1, .sl 501 0 (dl b) 1), (5, .sl 1000 0 q.1 1), (6, .i64 (ck a b q.1 : Int)), (7, .i64 ((q.1 : Nat) : Int))], [(500, some ⟨.aggI (dg a), 3, false⟩), (501, some ⟨.aggI (dg b), 3, false⟩), (1000, some ⟨.aggI (dn q.1 (a + b)), 3, true⟩)], 1008⟩) (fun q => dl a + dl b + 2 - q.1) ⟨0, by omega⟩ (StLe.mk [(1000, 1000)] rfl rfl ⟨⟨_, rfl, by rfl, rfl⟩, ⟨_, rfl, by rfl, rfl⟩, ⟨_, rfl, by rfl, rfl⟩, ⟨_, rfl, by (simp only [AV.ren]; rw [ck_zero]; rfl), rfl⟩, ⟨_, rfl, by rfl, rfl⟩, trivial⟩ ⟨⟨_, _, rfl, rfl, rfl, rfl, id, rfl⟩, ⟨_, _, rfl, rfl, rfl, rfl, id, rfl⟩, ⟨_, _, rfl, rfl, rfl, rfl, id, rfl⟩, trivial⟩) ?_
 rintro ⟨k, hk⟩
 try dsimp only
 have hS := add_step a b k
 have hc := ck_le a b k
 have hA : k < dl a → (dg a).getD k 0 = (dk a k : Int) := fun h => aW _ _ _ h
 have hB : k < dl b → (dg b).getD k 0 = (dk b k : Int) := fun h => aW _ _ _ h
 have hA0 : dl a ≤ k → dk a k = 0 := iM
 have hB0 : dl b ≤ k → dk b k = 0 := iM
 have hE : dl a ≤ k → dl b ≤ k → ck a b (k + 1) = 0 := ck_end
 have hl := gY k (a + b)
 have d1 := qU a k
 have d2 := qU b k
 have d3 := qU (a + b) k
 have l1 := dX a
 have l2 := dX b
 have hP : dl a < k → dl b < k → ck a b k = 0 := ck_prev
 refine .seq <| .r <| .m rfl rfl <| .m rfl rfl <| .x (rZ Tryz.underlying38 rfl) rfl <| .x (gZ rfl rfl rfl) rfl <| .m rfl rfl <| .split (fun hg13 => ?_) (fun hg13 => ?_)
 ·simp only [decide_eq_true_eq] at hg13
  refine .no ⟨_, rfl, rfl⟩ rfl <| .no ⟨_, rfl, rfl⟩ rfl <| .no ⟨_, rfl, rfl⟩ rfl <| .no ⟨_, rfl, rfl⟩ rfl <| .x (sY rfl rfl rfl) rfl <| .m rfl rfl <| .no ⟨_, rfl, rfl⟩ rfl <| .no ⟨_, rfl, rfl⟩ rfl <| .x (sY rfl rfl rfl) rfl <| .nil <| .cond_true rfl rfl <| .skip <| .seq <| .block <| .seq <| .r <| .m rfl rfl <| .m rfl rfl <| .x (rZ Tryz.underlying38 rfl) rfl <| .x (gZ rfl rfl rfl) rfl <| .nil <| .cond rfl (fun hc28 => ?_) (fun hc28 => ?_)
  ·simp only [decide_eq_true_eq] at hc28
   refine .region <| .m rfl rfl <| .m rfl rfl <| .m rfl rfl <| .x (cY Tryz.underlying38 inf3.sz rfl rfl rfl (by omega)) rfl <| .x (fZ Tryz.underlying3 rfl rfl rfl rfl (by simp only [AV.len]; omega)) rfl <| .x (jZ rfl rfl ⟨by omega, by omega⟩) rfl <| .s rfl rfl <| .nil <| .seq <| .r <| .m rfl rfl <| .m rfl rfl <| .x (rZ Tryz.underlying38 rfl) rfl <| .x (gZ rfl rfl rfl) rfl <| .nil <| .cond rfl (fun hc38 => ?_) (fun hc38 => ?_)
   ·simp only [decide_eq_true_eq] at hc38
    refine .region <| .m rfl rfl <| .m rfl rfl <| .m rfl rfl <| .x (cY Tryz.underlying38 inf3.sz rfl rfl rfl (by omega)) rfl <| .x (fZ Tryz.underlying3 rfl rfl rfl rfl (by simp only [AV.len]; omega)) rfl <| .x (jZ rfl rfl ⟨by omega, by omega⟩) rfl <| .s rfl rfl <| .nil <| .r <| .m rfl rfl <| .m rfl rfl <| .x (qY rfl rfl ⟨by omega, by omega⟩) rfl <| .y (vZ (us := [_]) (c := .aggI [_]) Tryz.underlying38 inf3 rfl (by decide) (by decide) ⟨rfl, rfl, rfl, trivial⟩ rfl) rfl <| .y (aX Tryz.underlying38 inf3 rfl rfl rfl rfl (by simp only [AV.len, gY]; done) rfl rfl (by simp [AV.len]; done) rfl (by omega)) rfl <| .s rfl rfl <| .nil <| .region <| .m rfl rfl <| .x (pY rfl rfl ⟨by omega, ⟨by omega, by omega⟩, by omega⟩) rfl <| .s rfl rfl <| .nil <| .region <| .m rfl rfl <| .x (jZ rfl rfl ⟨by omega, by omega⟩) rfl <| .s rfl rfl <| .nil ?_
    exact ⟨⟨k + 1, by omega⟩, by (try dsimp only); omega, StLe.mk [(1000, 1016)] rfl rfl ⟨⟨_, rfl, by rfl, rfl⟩, ⟨_, rfl, by rfl, rfl⟩, ⟨_, rfl, by rfl, rfl⟩, ⟨_, rfl, by (simp only [AV.ren]; congr 1; omega), rfl⟩, ⟨_, rfl, by (simp only [AV.ren]; congr 1), rfl⟩, trivial⟩ ⟨⟨_, _, rfl, rfl, rfl, rfl, id, rfl⟩, ⟨_, _, rfl, rfl, rfl, rfl, id, rfl⟩, ⟨_, _, rfl, rfl, by (simp only [AV.ren]; rw [tX]; congr 3; omega), rfl, id, rfl⟩, trivial⟩⟩
   ·simp only [decide_eq_false_iff_not] at hc38
    refine .skip <| .r <| .m rfl rfl <| .m rfl rfl <| .x (qY rfl rfl ⟨by omega, by omega⟩) rfl <| .y (vZ (us := [_]) (c := .aggI [_]) Tryz.underlying38 inf3 rfl (by decide) (by decide) ⟨rfl, rfl, rfl, trivial⟩ rfl) rfl <| .y (aX Tryz.underlying38 inf3 rfl rfl rfl rfl (by simp only [AV.len, gY]; done) rfl rfl (by simp [AV.len]; done) rfl (by omega)) rfl <| .s rfl rfl <| .nil <| .region <| .m rfl rfl <| .x (pY rfl rfl ⟨by omega, ⟨by omega, by omega⟩, by omega⟩) rfl <| .s rfl rfl <| .nil <| .region <| .m rfl rfl <| .x (jZ rfl rfl ⟨by omega, by omega⟩) rfl <| .s rfl rfl <| .nil ?_
    exact ⟨⟨k + 1, by omega⟩, by (try dsimp only); omega, StLe.mk [(1000, 1016)] rfl rfl ⟨⟨_, rfl, by rfl, rfl⟩, ⟨_, rfl, by rfl, rfl⟩, ⟨_, rfl, by rfl, rfl⟩, ⟨_, rfl, by (simp only [AV.ren]; congr 1; omega), rfl⟩, ⟨_, rfl, by (simp only [AV.ren]; congr 1), rfl⟩, trivial⟩ ⟨⟨_, _, rfl, rfl, rfl, rfl, id, rfl⟩, ⟨_, _, rfl, rfl, rfl, rfl, id, rfl⟩, ⟨_, _, rfl, rfl, by (simp only [AV.ren]; rw [tX]; congr 3; omega), rfl, id, rfl⟩, trivial⟩⟩
  ·simp only [decide_eq_false_iff_not] at hc28
   refine .skip <| .seq <| .r <| .m rfl rfl <| .m rfl rfl <| .x (rZ Tryz.underlying38 rfl) rfl <| .x (gZ rfl rfl rfl) rfl <| .nil <| .cond rfl (fun hc38 => ?_) (fun hc38 => ?_)
   ·simp only [decide_eq_true_eq] at hc38
    refine .region <| .m rfl rfl <| .m rfl rfl <| .m rfl rfl <| .x (cY Tryz.underlying38 inf3.sz rfl rfl rfl (by omega)) rfl <| .x (fZ Tryz.underlying3 rfl rfl rfl rfl (by omega)) rfl <| .x (jZ rfl rfl ⟨by omega, by omega⟩) rfl <| .s rfl rfl <| .nil <| .r <| .m rfl rfl <| .m rfl rfl <| .x (qY rfl rfl ⟨by omega, by omega⟩) rfl <| .y (vZ (us := [_]) (c := .aggI [_]) Tryz.underlying38 inf3 rfl (by decide) (by decide) ⟨rfl, rfl, rfl, trivial⟩ rfl) rfl <| .y (aX Tryz.underlying38 inf3 rfl rfl rfl rfl (by omega) rfl rfl (by omega) rfl (by omega)) rfl <| .s rfl rfl <| .nil <| .region <| .m rfl rfl <| .x (pY rfl rfl ⟨by omega, ⟨by omega, by omega⟩, by omega⟩) rfl <| .s rfl rfl <| .nil <| .region <| .m rfl rfl <| .x (jZ rfl rfl ⟨by omega, by omega⟩) rfl <| .s rfl rfl <| .nil ?_
    exact ⟨⟨k + 1, by omega⟩, by (try dsimp only); omega, StLe.mk [(1000, 1016)] rfl rfl ⟨⟨_, rfl, by rfl, rfl⟩, ⟨_, rfl, by rfl, rfl⟩, ⟨_, rfl, by rfl, rfl⟩, ⟨_, rfl, by (simp only [AV.ren]; congr 1; omega), rfl⟩, ⟨_, rfl, by (simp only [AV.ren]; congr 1), rfl⟩, trivial⟩ ⟨⟨_, _, rfl, rfl, rfl, rfl, id, rfl⟩, ⟨_, _, rfl, rfl, rfl, rfl, id, rfl⟩, ⟨_, _, rfl, rfl, by (simp only [AV.ren]; rw [tX]; congr 3; omega), rfl, id, rfl⟩, trivial⟩⟩
   ·simp only [decide_eq_false_iff_not] at hc38
    refine .skip <| .r <| .m rfl rfl <| .m rfl rfl <| .x (qY rfl rfl ⟨by omega, by omega⟩) rfl <| .y (vZ (us := [_]) (c := .aggI [_]) Tryz.underlying38 inf3 rfl (by decide) (by decide) ⟨rfl, rfl, rfl, trivial⟩ rfl) rfl <| .y (aX Tryz.underlying38 inf3 rfl rfl rfl rfl (by omega) rfl rfl (by omega) rfl (by omega)) rfl <| .s rfl rfl <| .nil <| .region <| .m rfl rfl <| .x (pY rfl rfl ⟨by omega, ⟨by omega, by omega⟩, by omega⟩) rfl <| .s rfl rfl <| .nil <| .region <| .m rfl rfl <| .x (jZ rfl rfl ⟨by omega, by omega⟩) rfl <| .s rfl rfl <| .nil ?_
    exact ⟨⟨k + 1, by omega⟩, by (try dsimp only); omega, StLe.mk [(1000, 1016)] rfl rfl ⟨⟨_, rfl, by rfl, rfl⟩, ⟨_, rfl, by rfl, rfl⟩, ⟨_, rfl, by rfl, rfl⟩, ⟨_, rfl, by (simp only [AV.ren]; congr 1; omega), rfl⟩, ⟨_, rfl, by (simp only [AV.ren]; congr 1), rfl⟩, trivial⟩ ⟨⟨_, _, rfl, rfl, rfl, rfl, id, rfl⟩, ⟨_, _, rfl, rfl, rfl, rfl, id, rfl⟩, ⟨_, _, rfl, rfl, by (simp only [AV.ren]; rw [tX]; congr 3; omega), rfl, id, rfl⟩, trivial⟩⟩
 ·simp only [decide_eq_false_iff_not] at hg13
  refine .q (iX rfl) ⟨_, rfl, rfl⟩ rfl <| .q (iX rfl) ⟨_, rfl, rfl⟩ rfl <| .q (rZ Tryz.underlying38 rfl) ⟨_, rfl, rfl⟩ rfl <| .q (gZ rfl rfl rfl) ⟨_, rfl, rfl⟩ rfl <| .x (aY rfl rfl rfl) rfl <| .m rfl rfl <| .split (fun hg19 => ?_) (fun hg19 => ?_)
  ·simp only [decide_eq_true_eq] at hg19
   refine .no ⟨_, rfl, rfl⟩ rfl <| .no ⟨_, rfl, rfl⟩ rfl <| .x (sY rfl rfl rfl) rfl <| .nil <| .cond_true rfl rfl <| .skip <| .seq <| .block <| .seq <| .r <| .m rfl rfl <| .m rfl rfl <| .x (rZ Tryz.underlying38 rfl) rfl <| .x (gZ rfl rfl rfl) rfl <| .nil <| .cond rfl (fun hc28 => ?_) (fun hc28 => ?_)
   ·simp only [decide_eq_true_eq] at hc28
    refine .region <| .m rfl rfl <| .m rfl rfl <| .m rfl rfl <| .x (cY Tryz.underlying38 inf3.sz rfl rfl rfl (by omega)) rfl <| .x (fZ Tryz.underlying3 rfl rfl rfl rfl (by omega)) rfl <| .x (jZ rfl rfl ⟨by omega, by omega⟩) rfl <| .s rfl rfl <| .nil <| .seq <| .r <| .m rfl rfl <| .m rfl rfl <| .x (rZ Tryz.underlying38 rfl) rfl <| .x (gZ rfl rfl rfl) rfl <| .nil <| .cond rfl (fun hc38 => ?_) (fun hc38 => ?_)
    ·simp only [decide_eq_true_eq] at hc38
     refine .region <| .m rfl rfl <| .m rfl rfl <| .m rfl rfl <| .x (cY Tryz.underlying38 inf3.sz rfl rfl rfl (by omega)) rfl <| .x (fZ Tryz.underlying3 rfl rfl rfl rfl (by omega)) rfl <| .x (jZ rfl rfl ⟨by omega, by omega⟩) rfl <| .s rfl rfl <| .nil <| .r <| .m rfl rfl <| .m rfl rfl <| .x (qY rfl rfl ⟨by omega, by omega⟩) rfl <| .y (vZ (us := [_]) (c := .aggI [_]) Tryz.underlying38 inf3 rfl (by decide) (by decide) ⟨rfl, rfl, rfl, trivial⟩ rfl) rfl <| .y (aX Tryz.underlying38 inf3 rfl rfl rfl rfl (by omega) rfl rfl (by omega) rfl (by omega)) rfl <| .s rfl rfl <| .nil <| .region <| .m rfl rfl <| .x (pY rfl rfl ⟨by omega, ⟨by omega, by omega⟩, by omega⟩) rfl <| .s rfl rfl <| .nil <| .region <| .m rfl rfl <| .x (jZ rfl rfl ⟨by omega, by omega⟩) rfl <| .s rfl rfl <| .nil ?_
     exact ⟨⟨k + 1, by omega⟩, by (try dsimp only); omega, StLe.mk [(1000, 1016)] rfl rfl ⟨⟨_, rfl, by rfl, rfl⟩, ⟨_, rfl, by rfl, rfl⟩, ⟨_, rfl, by rfl, rfl⟩, ⟨_, rfl, by (simp only [AV.ren]; congr 1; omega), rfl⟩, ⟨_, rfl, by (simp only [AV.ren]; congr 1), rfl⟩, trivial⟩ ⟨⟨_, _, rfl, rfl, rfl, rfl, id, rfl⟩, ⟨_, _, rfl, rfl, rfl, rfl, id, rfl⟩, ⟨_, _, rfl, rfl, by (simp only [AV.ren]; rw [tX]; congr 3; omega), rfl, id, rfl⟩, trivial⟩⟩
    ·simp only [decide_eq_false_iff_not] at hc38
     refine .skip <| .r <| .m rfl rfl <| .m rfl rfl <| .x (qY rfl rfl ⟨by omega, by omega⟩) rfl <| .y (vZ (us := [_]) (c := .aggI [_]) Tryz.underlying38 inf3 rfl (by decide) (by decide) ⟨rfl, rfl, rfl, trivial⟩ rfl) rfl <| .y (aX Tryz.underlying38 inf3 rfl rfl rfl rfl (by omega) rfl rfl (by omega) rfl (by omega)) rfl <| .s rfl rfl <| .nil <| .region <| .m rfl rfl <| .x (pY rfl rfl ⟨by omega, ⟨by omega, by omega⟩, by omega⟩) rfl <| .s rfl rfl <| .nil <| .region <| .m rfl rfl <| .x (jZ rfl rfl ⟨by omega, by omega⟩) rfl <| .s rfl rfl <| .nil ?_
     exact ⟨⟨k + 1, by omega⟩, by (try dsimp only); omega, StLe.mk [(1000, 1016)] rfl rfl ⟨⟨_, rfl, by rfl, rfl⟩, ⟨_, rfl, by rfl, rfl⟩, ⟨_, rfl, by rfl, rfl⟩, ⟨_, rfl, by (simp only [AV.ren]; congr 1; omega), rfl⟩, ⟨_, rfl, by (simp only [AV.ren]; congr 1), rfl⟩, trivial⟩ ⟨⟨_, _, rfl, rfl, rfl, rfl, id, rfl⟩, ⟨_, _, rfl, rfl, rfl, rfl, id, rfl⟩, ⟨_, _, rfl, rfl, by (simp only [AV.ren]; rw [tX]; congr 3; omega), rfl, id, rfl⟩, trivial⟩⟩
   ·simp only [decide_eq_false_iff_not] at hc28
    refine .skip <| .seq <| .r <| .m rfl rfl <| .m rfl rfl <| .x (rZ Tryz.underlying38 rfl) rfl <| .x (gZ rfl rfl rfl) rfl <| .nil <| .cond rfl (fun hc38 => ?_) (fun hc38 => ?_)
    ·simp only [decide_eq_true_eq] at hc38
     refine .region <| .m rfl rfl <| .m rfl rfl <| .m rfl rfl <| .x (cY Tryz.underlying38 inf3.sz rfl rfl rfl (by omega)) rfl <| .x (fZ Tryz.underlying3 rfl rfl rfl rfl (by simp only [AV.len]; omega)) rfl <| .x (jZ rfl rfl ⟨by omega, by omega⟩) rfl <| .s rfl rfl <| .nil <| .r <| .m rfl rfl <| .m rfl rfl <| .x (qY rfl rfl ⟨by omega, by omega⟩) rfl <| .y (vZ (us := [_]) (c := .aggI [_]) Tryz.underlying38 inf3 rfl (by decide) (by decide) ⟨rfl, rfl, rfl, trivial⟩ rfl) rfl <| .y (aX Tryz.underlying38 inf3 rfl rfl rfl rfl (by simp only [AV.len, gY]; done) rfl rfl (by simp [AV.len]; done) rfl (by omega)) rfl <| .s rfl rfl <| .nil <| .region <| .m rfl rfl <| .x (pY rfl rfl ⟨by omega, ⟨by omega, by omega⟩, by omega⟩) rfl <| .s rfl rfl <| .nil <| .region <| .m rfl rfl <| .x (jZ rfl rfl ⟨by omega, by omega⟩) rfl <| .s rfl rfl <| .nil ?_
     exact ⟨⟨k + 1, by omega⟩, by (try dsimp only); omega, StLe.mk [(1000, 1016)] rfl rfl ⟨⟨_, rfl, by rfl, rfl⟩, ⟨_, rfl, by rfl, rfl⟩, ⟨_, rfl, by rfl, rfl⟩, ⟨_, rfl, by (simp only [AV.ren]; congr 1; omega), rfl⟩, ⟨_, rfl, by (simp only [AV.ren]; congr 1), rfl⟩, trivial⟩ ⟨⟨_, _, rfl, rfl, rfl, rfl, id, rfl⟩, ⟨_, _, rfl, rfl, rfl, rfl, id, rfl⟩, ⟨_, _, rfl, rfl, by (simp only [AV.ren]; rw [tX]; congr 3; omega), rfl, id, rfl⟩, trivial⟩⟩
    ·simp only [decide_eq_false_iff_not] at hc38
     refine .skip <| .r <| .m rfl rfl <| .m rfl rfl <| .x (qY rfl rfl ⟨by omega, by omega⟩) rfl <| .y (vZ (us := [_]) (c := .aggI [_]) Tryz.underlying38 inf3 rfl (by decide) (by decide) ⟨rfl, rfl, rfl, trivial⟩ rfl) rfl <| .y (aX Tryz.underlying38 inf3 rfl rfl rfl rfl (by omega) rfl rfl (by omega) rfl (by omega)) rfl <| .s rfl rfl <| .nil <| .region <| .m rfl rfl <| .x (pY rfl rfl ⟨by omega, ⟨by omega, by omega⟩, by omega⟩) rfl <| .s rfl rfl <| .nil <| .region <| .m rfl rfl <| .x (jZ rfl rfl ⟨by omega, by omega⟩) rfl <| .s rfl rfl <| .nil ?_
     exact ⟨⟨k + 1, by omega⟩, by (try dsimp only); omega, StLe.mk [(1000, 1016)] rfl rfl ⟨⟨_, rfl, by rfl, rfl⟩, ⟨_, rfl, by rfl, rfl⟩, ⟨_, rfl, by rfl, rfl⟩, ⟨_, rfl, by (simp only [AV.ren]; congr 1; omega), rfl⟩, ⟨_, rfl, by (simp only [AV.ren]; congr 1), rfl⟩, trivial⟩ ⟨⟨_, _, rfl, rfl, rfl, rfl, id, rfl⟩, ⟨_, _, rfl, rfl, rfl, rfl, id, rfl⟩, ⟨_, _, rfl, rfl, by (simp only [AV.ren]; rw [tX]; congr 3; omega), rfl, id, rfl⟩, trivial⟩⟩
  ·simp only [decide_eq_false_iff_not] at hg19
   refine .q (iX rfl) ⟨_, rfl, rfl⟩ rfl <| .q (gZ rfl rfl rfl) ⟨_, rfl, rfl⟩ rfl <| .x (aY rfl rfl rfl) rfl <| .nil <| .cond rfl (fun hc22 => ?_) (fun hc22 => ?_)
   ·simp only [decide_eq_true_eq] at hc22
    refine .skip <| .seq <| .block <| .seq <| .r <| .m rfl rfl <| .m rfl rfl <| .x (rZ Tryz.underlying38 rfl) rfl <| .x (gZ rfl rfl rfl) rfl <| .nil <| .cond rfl (fun hc28 => ?_) (fun hc28 => ?_)
    ·simp only [decide_eq_true_eq] at hc28
     refine .region <| .m rfl rfl <| .m rfl rfl <| .m rfl rfl <| .x (cY Tryz.underlying38 inf3.sz rfl rfl rfl (by omega)) rfl <| .x (fZ Tryz.underlying3 rfl rfl rfl rfl (by omega)) rfl <| .x (jZ rfl rfl ⟨by omega, by omega⟩) rfl <| .s rfl rfl <| .nil <| .seq <| .r <| .m rfl rfl <| .m rfl rfl <| .x (rZ Tryz.underlying38 rfl) rfl <| .x (gZ rfl rfl rfl) rfl <| .nil <| .cond rfl (fun hc38 => ?_) (fun hc38 => ?_)
     ·simp only [decide_eq_true_eq] at hc38
      refine .region <| .m rfl rfl <| .m rfl rfl <| .m rfl rfl <| .x (cY Tryz.underlying38 inf3.sz rfl rfl rfl (by omega)) rfl <| .x (fZ Tryz.underlying3 rfl rfl rfl rfl (by omega)) rfl <| .x (jZ rfl rfl ⟨by omega, by omega⟩) rfl <| .s rfl rfl <| .nil <| .r <| .m rfl rfl <| .m rfl rfl <| .x (qY rfl rfl ⟨by omega, by omega⟩) rfl <| .y (vZ (us := [_]) (c := .aggI [_]) Tryz.underlying38 inf3 rfl (by decide) (by decide) ⟨rfl, rfl, rfl, trivial⟩ rfl) rfl <| .y (aX Tryz.underlying38 inf3 rfl rfl rfl rfl (by omega) rfl rfl (by omega) rfl (by omega)) rfl <| .s rfl rfl <| .nil <| .region <| .m rfl rfl <| .x (pY rfl rfl ⟨by omega, ⟨by omega, by omega⟩, by omega⟩) rfl <| .s rfl rfl <| .nil <| .region <| .m rfl rfl <| .x (jZ rfl rfl ⟨by omega, by omega⟩) rfl <| .s rfl rfl <| .nil ?_
      exact ⟨⟨k + 1, by omega⟩, by (try dsimp only); omega, StLe.mk [(1000, 1016)] rfl rfl ⟨⟨_, rfl, by rfl, rfl⟩, ⟨_, rfl, by rfl, rfl⟩, ⟨_, rfl, by rfl, rfl⟩, ⟨_, rfl, by (simp only [AV.ren]; congr 1; omega), rfl⟩, ⟨_, rfl, by (simp only [AV.ren]; congr 1), rfl⟩, trivial⟩ ⟨⟨_, _, rfl, rfl, rfl, rfl, id, rfl⟩, ⟨_, _, rfl, rfl, rfl, rfl, id, rfl⟩, ⟨_, _, rfl, rfl, by (simp only [AV.ren]; rw [tX]; congr 3; omega), rfl, id, rfl⟩, trivial⟩⟩
     ·simp only [decide_eq_false_iff_not] at hc38
      refine .skip <| .r <| .m rfl rfl <| .m rfl rfl <| .x (qY rfl rfl ⟨by omega, by omega⟩) rfl <| .y (vZ (us := [_]) (c := .aggI [_]) Tryz.underlying38 inf3 rfl (by decide) (by decide) ⟨rfl, rfl, rfl, trivial⟩ rfl) rfl <| .y (aX Tryz.underlying38 inf3 rfl rfl rfl rfl (by omega) rfl rfl (by omega) rfl (by omega)) rfl <| .s rfl rfl <| .nil <| .region <| .m rfl rfl <| .x (pY rfl rfl ⟨by omega, ⟨by omega, by omega⟩, by omega⟩) rfl <| .s rfl rfl <| .nil <| .region <| .m rfl rfl <| .x (jZ rfl rfl ⟨by omega, by omega⟩) rfl <| .s rfl rfl <| .nil ?_
      exact ⟨⟨k + 1, by omega⟩, by (try dsimp only); omega, StLe.mk [(1000, 1016)] rfl rfl ⟨⟨_, rfl, by rfl, rfl⟩, ⟨_, rfl, by rfl, rfl⟩, ⟨_, rfl, by rfl, rfl⟩, ⟨_, rfl, by (simp only [AV.ren]; congr 1; omega), rfl⟩, ⟨_, rfl, by (simp only [AV.ren]; congr 1), rfl⟩, trivial⟩ ⟨⟨_, _, rfl, rfl, rfl, rfl, id, rfl⟩, ⟨_, _, rfl, rfl, rfl, rfl, id, rfl⟩, ⟨_, _, rfl, rfl, by (simp only [AV.ren]; rw [tX]; congr 3; omega), rfl, id, rfl⟩, trivial⟩⟩
    ·simp only [decide_eq_false_iff_not] at hc28
     refine .skip <| .seq <| .r <| .m rfl rfl <| .m rfl rfl <| .x (rZ Tryz.underlying38 rfl) rfl <| .x (gZ rfl rfl rfl) rfl <| .nil <| .cond rfl (fun hc38 => ?_) (fun hc38 => ?_)
     ·simp only [decide_eq_true_eq] at hc38
      refine .region <| .m rfl rfl <| .m rfl rfl <| .m rfl rfl <| .x (cY Tryz.underlying38 inf3.sz rfl rfl rfl (by omega)) rfl <| .x (fZ Tryz.underlying3 rfl rfl rfl rfl (by omega)) rfl <| .x (jZ rfl rfl ⟨by omega, by omega⟩) rfl <| .s rfl rfl <| .nil <| .r <| .m rfl rfl <| .m rfl rfl <| .x (qY rfl rfl ⟨by omega, by omega⟩) rfl <| .y (vZ (us := [_]) (c := .aggI [_]) Tryz.underlying38 inf3 rfl (by decide) (by decide) ⟨rfl, rfl, rfl, trivial⟩ rfl) rfl <| .y (aX Tryz.underlying38 inf3 rfl rfl rfl rfl (by omega) rfl rfl (by omega) rfl (by omega)) rfl <| .s rfl rfl <| .nil <| .region <| .m rfl rfl <| .x (pY rfl rfl ⟨by omega, ⟨by omega, by omega⟩, by omega⟩) rfl <| .s rfl rfl <| .nil <| .region <| .m rfl rfl <| .x (jZ rfl rfl ⟨by omega, by omega⟩) rfl <| .s rfl rfl <| .nil ?_
      exact ⟨⟨k + 1, by omega⟩, by (try dsimp only); omega, StLe.mk [(1000, 1016)] rfl rfl ⟨⟨_, rfl, by rfl, rfl⟩, ⟨_, rfl, by rfl, rfl⟩, ⟨_, rfl, by rfl, rfl⟩, ⟨_, rfl, by (simp only [AV.ren]; congr 1; omega), rfl⟩, ⟨_, rfl, by (simp only [AV.ren]; congr 1), rfl⟩, trivial⟩ ⟨⟨_, _, rfl, rfl, rfl, rfl, id, rfl⟩, ⟨_, _, rfl, rfl, rfl, rfl, id, rfl⟩, ⟨_, _, rfl, rfl, by (simp only [AV.ren]; rw [tX]; congr 3; omega), rfl, id, rfl⟩, trivial⟩⟩
     ·simp only [decide_eq_false_iff_not] at hc38
      refine .skip <| .r <| .m rfl rfl <| .m rfl rfl <| .x (qY rfl rfl ⟨by omega, by omega⟩) rfl <| .y (vZ (us := [_]) (c := .aggI [_]) Tryz.underlying38 inf3 rfl (by decide) (by decide) ⟨rfl, rfl, rfl, trivial⟩ rfl) rfl <| .y (aX Tryz.underlying38 inf3 rfl rfl rfl rfl (by simp only [AV.len, gY]; done) rfl rfl (by simp [AV.len]; done) rfl (by omega)) rfl <| .s rfl rfl <| .nil <| .region <| .m rfl rfl <| .x (pY rfl rfl ⟨by omega, ⟨by omega, by omega⟩, by omega⟩) rfl <| .s rfl rfl <| .nil <| .region <| .m rfl rfl <| .x (jZ rfl rfl ⟨by omega, by omega⟩) rfl <| .s rfl rfl <| .nil ?_
      exact ⟨⟨k + 1, by omega⟩, by (try dsimp only); omega, StLe.mk [(1000, 1016)] rfl rfl ⟨⟨_, rfl, by rfl, rfl⟩, ⟨_, rfl, by rfl, rfl⟩, ⟨_, rfl, by rfl, rfl⟩, ⟨_, rfl, by (simp only [AV.ren]; congr 1; omega), rfl⟩, ⟨_, rfl, by (simp only [AV.ren]; congr 1), rfl⟩, trivial⟩ ⟨⟨_, _, rfl, rfl, rfl, rfl, id, rfl⟩, ⟨_, _, rfl, rfl, rfl, rfl, id, rfl⟩, ⟨_, _, rfl, rfl, by (simp only [AV.ren]; rw [tX]; congr 3; omega), rfl, id, rfl⟩, trivial⟩⟩
   ·simp only [decide_eq_false_iff_not] at hc22
    refine .exit <| .r <| .m rfl rfl <| .x (aZ (U := []) [(500, 1000)] [] (kS k (a + b) (add_end (by omega) (by omega) (by omega)) (by omega)) Tryz.func49 (by kernel_rfl) rfl rfl rfl (⟨⟨_, rfl, rfl, rfl⟩, trivial⟩) (⟨⟨_, _, rfl, rfl, rfl, rfl, nf, rfl⟩, trivial⟩) (trivial) (⟨nf, trivial⟩) rfl) rfl <| .s rfl rfl <| .nil <| Ev.pre (H2 := [(1000, some ⟨.aggI (dg (a + b)), 3, true⟩)]) ⟨⟨.aggI (dn k (a + b)), dl (a + b), rfl, wP k (a + b) (qX (add_end (by omega) (by omega) (by omega)))⟩, trivial⟩ <| .ret ?_
    exact yZ rfl (.inl rfl) rfl rfl ⟨rfl, trivial⟩
end Go.Proofs.YtcnjekoidgefpaaGreatDoor
namespace Go.Proofs.YtcnjekoidgefpaaGreatDoor
open Go.RowKit
theorem xT (k : Nat) : ofI8 ((k : Int) % 256) = UInt8.ofNat (k % 256) := by
  unfold ofI8; congr 1; omega
theorem pow_in {m : Nat} (h : m < 16) : InI (1 * 2 ^ m) := by
  have hm : m = 0 ∨ m = 1 ∨ m = 2 ∨ m = 3 ∨ m = 4 ∨ m = 5 ∨ m = 6 ∨ m = 7 ∨ m = 8 ∨ m = 9 ∨ m = 10 ∨ m = 11 ∨ m = 12 ∨ m = 13 ∨ m = 14 ∨ m = 15 := by omega
  unfold InI
  rcases hm with rfl | rfl | rfl | rfl | rfl | rfl | rfl | rfl | rfl | rfl | rfl | rfl | rfl | rfl | rfl | rfl <;> decide
set_option maxRecDepth 100000 in
theorem bO (n : Nat) (hn : n ≤ 1000000) : kZ Tryz.prog 112 [.i64 (n : Int)] [] (.sl 1000 0 (dl (2 ^ n)) 1) [(1000, some ⟨.aggI (dg (2 ^ n)), 3, true⟩)] := by
 refine mt (nt := 16) Tryz.func112 rfl rfl rfl <| .r <| .s rfl rfl <| .nil <| .r <| .m rfl rfl <| .x (pY rfl rfl ⟨by omega, ⟨by omega, by omega⟩, by omega⟩) rfl <| .x (jZ rfl rfl ⟨by omega, by omega⟩) rfl <| .y (xJ (n := n / 16 + 1) (c := .aggI (List.replicate (n / 16 + 1) 0)) Tryz.underlying38 inf3 rfl rfl (by omega) (by omega) (by omega) (rel_zero3) rfl (by simp [AV.list, AV.parts])) rfl <| .s rfl rfl <| .nil <| .r <| .m rfl rfl <| .m rfl rfl <| .x (pY rfl rfl ⟨by omega, ⟨by omega, by omega⟩, by omega⟩) rfl <| .m rfl rfl <| .x (qY rfl rfl ⟨by omega, by omega⟩) rfl <| .x (op_shlI (n := n % 16) rfl rfl (by simp only [tW]; rw [show (n : Int) % 16 = ((n % 16 : Nat) : Int) by omega]) ⟨by omega, pow_in (by omega)⟩) rfl <| .x (cY Tryz.underlying38 inf3.sz rfl rfl (i := n / 16) (by omega) (by omega)) rfl <| .w (iY inf3.sz rfl rfl rfl rfl rfl (by simp only [AV.len, List.length_replicate]; omega)) trivial rfl <| .asH (.aggI (dg (2 ^ n))) (congrArg AV.aggI (dg_pow n)) <| .nil <| .r <| .m rfl rfl <| .s rfl rfl <| .nil <| .ret ?_
 exact yZ rfl (.inl rfl) rfl (by rw [dl_pow]) ⟨rfl, trivial⟩
set_option maxHeartbeats 1000000 in
set_option maxRecDepth 100000 in
theorem gO (v n : Nat) (hn : n ≤ 1000000) : kZ Tryz.prog 68 [.sl 500 0 (dl v) 1, .i64 (n : Int)] [(500, some ⟨.aggI (dg v), 3, false⟩)] (.str (bsN v n)) [] := by
 refine mt (nt := 37) Tryz.func68 rfl rfl rfl <| .r <| .s rfl rfl <| .nil <| .r <| .y (dW (z := 1) (c := .aggB []) Tryz.underlying25 inf5 rfl) rfl <| .s rfl rfl <| .nil <| .seq <| .r <| .s rfl rfl <| .nil <| .block <| Ev.loop (ι := { k : Nat // k ≤ n }) (fun q => ⟨[(0, .sl 500 0 (dl v) 1), (1, .i64 (n : Int)), (5, .sl 1000 0 q.1 1), (6, .i64 ((q.1 : Nat) : Int))], [(500, some ⟨.aggI (dg v), 3, false⟩), (1000, some ⟨.aggB (bsN v q.1), 5, true⟩)], 1008⟩) (fun q => n - q.1) ⟨0, Nat.zero_le _⟩ (StLe.mk [(1000, 1000)] rfl rfl ⟨⟨_, rfl, by first | rfl | (simp only [AV.ren]; congr 1; omega), rfl⟩, ⟨_, rfl, by first | rfl | (simp only [AV.ren]; congr 1; omega), rfl⟩, ⟨_, rfl, by first | rfl | (simp only [AV.ren]; congr 1; omega), rfl⟩, ⟨_, rfl, by first | rfl | (simp only [AV.ren]; congr 1; omega), rfl⟩, trivial⟩ ⟨⟨_, _, rfl, rfl, rfl, rfl, id, rfl⟩, ⟨_, _, rfl, rfl, rfl, rfl, id, rfl⟩, trivial⟩) ?_
 rintro ⟨k, hk⟩
 try dsimp only
 have hby := dk_byte v k
 have hl := fY v k
 have hg : k / 2 < dl v → (dg v).getD (k / 2) 0 = (dk v (k / 2) : Int) := fun h => aW _ _ _ h
 have hz : dl v ≤ k / 2 → dk v (k / 2) = 0 := iM
 have d1 := qU v (k / 2)
 have l1 := dX v
 refine .seq <| .r <| .m rfl rfl <| .m rfl rfl <| .x (gZ rfl rfl rfl) rfl <| .nil <| .cond rfl (fun hc11 => ?_) (fun hc11 => ?_)
 ·simp only [decide_eq_true_eq] at hc11
  refine .skip <| .seq <| .block <| .r <| .s rfl rfl <| .nil <| .seq <| .r <| .m rfl rfl <| .x (pY rfl rfl ⟨by omega, ⟨by omega, by omega⟩, by omega⟩) rfl <| .m rfl rfl <| .x (rZ Tryz.underlying38 rfl) rfl <| .x (gZ rfl rfl rfl) rfl <| .nil <| .cond rfl (fun hc18 => ?_) (fun hc18 => ?_)
  ·simp only [decide_eq_true_eq] at hc18
   refine .region <| .m rfl rfl <| .m rfl rfl <| .x (pY rfl rfl ⟨by omega, ⟨by omega, by omega⟩, by omega⟩) rfl <| .x (cY Tryz.underlying38 inf3.sz rfl rfl (i := k / 2) (by omega) (by omega)) rfl <| .x (fZ Tryz.underlying3 rfl rfl rfl rfl (by simp only [AV.len]; omega)) rfl <| .as (.i64 (dk v (k / 2) : Int)) (congrArg AV.i64 (hg (by omega))) <| .s rfl rfl <| .nil <| .seq <| .r <| .m rfl rfl <| .x (qY rfl rfl ⟨by omega, by omega⟩) rfl <| .x (gZ rfl rfl rfl) rfl <| .nil <| .cond rfl (fun hc26 => ?_) (fun hc26 => ?_)
   ·simp only [beq_iff_eq] at hc26
    refine .region <| .m rfl rfl <| .x (pY rfl rfl ⟨by omega, ⟨by omega, by omega⟩, by omega⟩) rfl <| .s rfl rfl <| .nil <| .region <| .m rfl rfl <| .m rfl rfl <| .x (qY rfl rfl ⟨by omega, by omega⟩) rfl <| .x (vX Tryz.underlying3 Tryz.underlying5 rfl rfl) rfl <| .y (vZ (us := [_]) (c := .aggB [_]) Tryz.underlying25 inf5 rfl (by decide) (by decide) ⟨rfl, rfl, rfl, trivial⟩ rfl) rfl <| .y (aX Tryz.underlying25 inf5 rfl rfl rfl rfl (by simp only [AV.len, fY]; done) rfl rfl (by simp [AV.len]; done) rfl (by omega)) rfl <| .s rfl rfl <| .nil <| .region <| .m rfl rfl <| .x (jZ rfl rfl ⟨by omega, by omega⟩) rfl <| .s rfl rfl <| .nil ?_
    exact ⟨⟨k + 1, by omega⟩, by (try dsimp only); omega, StLe.mk [(1000, 1016)] rfl rfl ⟨⟨_, rfl, by rfl, rfl⟩, ⟨_, rfl, by rfl, rfl⟩, ⟨_, rfl, by rfl, rfl⟩, ⟨_, rfl, by rfl, rfl⟩, trivial⟩ ⟨⟨_, _, rfl, rfl, rfl, rfl, id, rfl⟩, ⟨_, _, rfl, rfl, by (simp only [AV.ren, bsN]; rw [← hby]; first | (rw [if_pos (by omega)]; rw [show ((dk v (k / 2) : Nat) : Int) / 256 = ((dk v (k / 2) / 256 : Nat) : Int) by simp, xT]; done) | (rw [if_neg (by omega), xT]; done) | (rw [hz (by omega)]; split <;> rfl)), rfl, id, rfl⟩, trivial⟩⟩
   ·simp only [ne_eq, beq_eq_false_iff_ne] at hc26
    refine .skip <| .region <| .m rfl rfl <| .m rfl rfl <| .x (qY rfl rfl ⟨by omega, by omega⟩) rfl <| .x (vX Tryz.underlying3 Tryz.underlying5 rfl rfl) rfl <| .y (vZ (us := [_]) (c := .aggB [_]) Tryz.underlying25 inf5 rfl (by decide) (by decide) ⟨rfl, rfl, rfl, trivial⟩ rfl) rfl <| .y (aX Tryz.underlying25 inf5 rfl rfl rfl rfl (by simp only [AV.len, fY]; done) rfl rfl (by simp [AV.len]; done) rfl (by omega)) rfl <| .s rfl rfl <| .nil <| .region <| .m rfl rfl <| .x (jZ rfl rfl ⟨by omega, by omega⟩) rfl <| .s rfl rfl <| .nil ?_
    exact ⟨⟨k + 1, by omega⟩, by (try dsimp only); omega, StLe.mk [(1000, 1016)] rfl rfl ⟨⟨_, rfl, by rfl, rfl⟩, ⟨_, rfl, by rfl, rfl⟩, ⟨_, rfl, by rfl, rfl⟩, ⟨_, rfl, by rfl, rfl⟩, trivial⟩ ⟨⟨_, _, rfl, rfl, rfl, rfl, id, rfl⟩, ⟨_, _, rfl, rfl, by (simp only [AV.ren, bsN]; rw [← hby]; first | (rw [if_pos (by omega)]; rw [show ((dk v (k / 2) : Nat) : Int) / 256 = ((dk v (k / 2) / 256 : Nat) : Int) by simp, xT]; done) | (rw [if_neg (by omega), xT]; done) | (rw [hz (by omega)]; split <;> rfl)), rfl, id, rfl⟩, trivial⟩⟩
  ·simp only [decide_eq_false_iff_not] at hc18
   refine .skip <| .seq <| .r <| .m rfl rfl <| .x (qY rfl rfl ⟨by omega, by omega⟩) rfl <| .x (gZ rfl rfl rfl) rfl <| .nil <| .cond rfl (fun hc26 => ?_) (fun hc26 => ?_)
   ·simp only [beq_iff_eq] at hc26
    refine .region <| .m rfl rfl <| .x (pY rfl rfl ⟨by omega, ⟨by omega, by omega⟩, by omega⟩) rfl <| .s rfl rfl <| .nil <| .region <| .m rfl rfl <| .m rfl rfl <| .x (qY rfl rfl ⟨by omega, by omega⟩) rfl <| .x (vX Tryz.underlying3 Tryz.underlying5 rfl rfl) rfl <| .y (vZ (us := [_]) (c := .aggB [_]) Tryz.underlying25 inf5 rfl (by decide) (by decide) ⟨rfl, rfl, rfl, trivial⟩ rfl) rfl <| .y (aX Tryz.underlying25 inf5 rfl rfl rfl rfl (by simp only [AV.len, fY]; done) rfl rfl (by simp [AV.len]; done) rfl (by omega)) rfl <| .s rfl rfl <| .nil <| .region <| .m rfl rfl <| .x (jZ rfl rfl ⟨by omega, by omega⟩) rfl <| .s rfl rfl <| .nil ?_
    exact ⟨⟨k + 1, by omega⟩, by (try dsimp only); omega, StLe.mk [(1000, 1016)] rfl rfl ⟨⟨_, rfl, by rfl, rfl⟩, ⟨_, rfl, by rfl, rfl⟩, ⟨_, rfl, by rfl, rfl⟩, ⟨_, rfl, by rfl, rfl⟩, trivial⟩ ⟨⟨_, _, rfl, rfl, rfl, rfl, id, rfl⟩, ⟨_, _, rfl, rfl, by (simp only [AV.ren, bsN]; rw [← hby]; first | (rw [if_pos (by omega)]; rw [show ((dk v (k / 2) : Nat) : Int) / 256 = ((dk v (k / 2) / 256 : Nat) : Int) by simp, xT]; done) | (rw [if_neg (by omega), xT]; done) | (rw [hz (by omega)]; split <;> rfl)), rfl, id, rfl⟩, trivial⟩⟩
   ·simp only [ne_eq, beq_eq_false_iff_ne] at hc26
    refine .skip <| .region <| .m rfl rfl <| .m rfl rfl <| .x (qY rfl rfl ⟨by omega, by omega⟩) rfl <| .x (vX Tryz.underlying3 Tryz.underlying5 rfl rfl) rfl <| .y (vZ (us := [_]) (c := .aggB [_]) Tryz.underlying25 inf5 rfl (by decide) (by decide) ⟨rfl, rfl, rfl, trivial⟩ rfl) rfl <| .y (aX Tryz.underlying25 inf5 rfl rfl rfl rfl (by simp only [AV.len, fY]; done) rfl rfl (by simp [AV.len]; done) rfl (by omega)) rfl <| .s rfl rfl <| .nil <| .region <| .m rfl rfl <| .x (jZ rfl rfl ⟨by omega, by omega⟩) rfl <| .s rfl rfl <| .nil ?_
    exact ⟨⟨k + 1, by omega⟩, by (try dsimp only); omega, StLe.mk [(1000, 1016)] rfl rfl ⟨⟨_, rfl, by rfl, rfl⟩, ⟨_, rfl, by rfl, rfl⟩, ⟨_, rfl, by rfl, rfl⟩, ⟨_, rfl, by rfl, rfl⟩, trivial⟩ ⟨⟨_, _, rfl, rfl, rfl, rfl, id, rfl⟩, ⟨_, _, rfl, rfl, by (simp only [AV.ren, bsN]; rw [← hby]; first | (rw [if_pos (by omega)]; rw [show ((dk v (k / 2) : Nat) : Int) / 256 = ((dk v (k / 2) / 256 : Nat) : Int) by simp, xT]; done) | (rw [if_neg (by omega), xT]; done) | (rw [hz (by omega)]; split <;> rfl)), rfl, id, rfl⟩, trivial⟩⟩
 ·simp only [decide_eq_false_iff_not] at hc11
  refine .exit <| .r <| .m rfl rfl <| .x (wZ Tryz.underlying25 Tryz.underlying5 Tryz.underlying9 rfl rfl rfl (by rw [fY]; omega)) rfl <| .s rfl rfl <| .nil <| .ret ?_
  have e : k = n := by omega
  exact yZ rfl (.inl rfl) rfl (by rw [e, List.drop_zero, List.take_of_length_le (by rw [fY]; omega)]) trivial
set_option maxHeartbeats 1000000 in
set_option maxRecDepth 100000 in
theorem gS (a b : Nat) (h : b ≤ a) (ha : dl a ≤ 1000) (_hb : dl b ≤ 1000) : kZ Tryz.prog 84 [.sl 500 0 (dl a) 1, .sl 501 0 (dl b) 1] [(500, some ⟨.aggI (dg a), 3, false⟩), (501, some ⟨.aggI (dg b), 3, false⟩)] (.sl 1000 0 (dl (a - b)) 1) [(1000, some ⟨.aggI (dg (a - b)), 3, true⟩)] := by
 refine mt (nt := 42) Tryz.func84 rfl rfl rfl <| .r <| .s rfl rfl <| .nil <| .r <| .y (dW (z := 1) (c := .aggI []) Tryz.underlying38 inf3 rfl) rfl <| .s rfl rfl <| .nil <| .r <| .s rfl rfl <| .nil <| .seq <| .r <| .m rfl rfl <| .x (rZ Tryz.underlying38 rfl) rfl <| .m rfl rfl <| .nil <| .block <| Ev.loop (ι := { k : Nat // k ≤ dl a }) (fun q => ⟨[(0, .sl 500 0 (dl a) 1), (1, .sl 501 0 (dl b) 1), (5, .sl 1000 0 q.1 1), (6, .i64 (bk a b q.1 : Int)), (11, .i64 ((dl a : Nat) : Int)), (12, .i64 ((q.1 : Nat) : Int))], [(500, some ⟨.aggI (dg a), 3, false⟩), (501, some ⟨.aggI (dg b), 3, false⟩), (1000, some ⟨.aggI (dn q.1 (a - b)), 3, true⟩)], 1008⟩) (fun q => dl a - q.1) ⟨0, Nat.zero_le _⟩ (StLe.mk [(1000, 1000)] rfl rfl ⟨⟨_, rfl, by rfl, rfl⟩, ⟨_, rfl, by rfl, rfl⟩, ⟨_, rfl, by rfl, rfl⟩, ⟨_, rfl, by (simp only [AV.ren]; rw [bk_zero]; rfl), rfl⟩, ⟨_, rfl, by rfl, rfl⟩, ⟨_, rfl, by rfl, rfl⟩, trivial⟩ ⟨⟨_, _, rfl, rfl, rfl, rfl, id, rfl⟩, ⟨_, _, rfl, rfl, rfl, rfl, id, rfl⟩, ⟨_, _, rfl, rfl, rfl, rfl, id, rfl⟩, trivial⟩) ?_
 rintro ⟨k, hk⟩
 try dsimp only
 have hS := sub_step h k
 have hb1 := bk_le a b k
 have hb2 := bk_le a b (k + 1)
 have hA : k < dl a → (dg a).getD k 0 = (dk a k : Int) := fun h => aW _ _ _ h
 have hB : k < dl b → (dg b).getD k 0 = (dk b k : Int) := fun h => aW _ _ _ h
 have hB0 : dl b ≤ k → dk b k = 0 := iM
 have hl := gY k (a - b)
 have d1 := qU a k
 have d2 := qU b k
 have d3 := qU (a - b) k
 have l1 := dX a
 have l2 := dX b
 refine .r <| .x (gZ rfl rfl rfl) rfl <| .nil <| .seq <| .cond rfl (fun hc13 => ?_) (fun hc13 => ?_)
 ·simp only [decide_eq_true_eq] at hc13
  refine .skip <| .seq <| .block <| .r <| .m rfl rfl <| .s rfl rfl <| .nil <| .r <| .m rfl rfl <| .m rfl rfl <| .x (cY Tryz.underlying38 inf3.sz rfl rfl rfl (by omega)) rfl <| .x (fZ Tryz.underlying3 rfl rfl rfl rfl (by simp only [AV.len]; omega)) rfl <| .as (.i64 (dk a k : Int)) (congrArg AV.i64 (hA (by omega))) <| .m rfl rfl <| .x (tY rfl rfl ⟨by omega, by omega⟩) rfl <| .s rfl rfl <| .nil <| .seq <| .r <| .m rfl rfl <| .m rfl rfl <| .x (rZ Tryz.underlying38 rfl) rfl <| .x (gZ rfl rfl rfl) rfl <| .nil <| .cond rfl (fun hc24 => ?_) (fun hc24 => ?_)
  ·simp only [decide_eq_true_eq] at hc24
   refine .region <| .m rfl rfl <| .m rfl rfl <| .m rfl rfl <| .x (cY Tryz.underlying38 inf3.sz rfl rfl rfl (by omega)) rfl <| .x (fZ Tryz.underlying3 rfl rfl rfl rfl (by simp only [AV.len]; omega)) rfl <| .as (.i64 (dk b k : Int)) (congrArg AV.i64 (hB (by omega))) <| .x (tY rfl rfl ⟨by omega, by omega⟩) rfl <| .s rfl rfl <| .nil <| .r <| .s rfl rfl <| .nil <| .seq <| .r <| .m rfl rfl <| .x (gZ rfl rfl rfl) rfl <| .nil <| .cond rfl (fun hc32 => ?_) (fun hc32 => ?_)
   ·simp only [decide_eq_true_eq] at hc32
    refine .r <| .m rfl rfl <| .x (jZ rfl rfl ⟨by omega, by omega⟩) rfl <| .s rfl rfl <| .nil <| .region <| .s rfl rfl <| .nil <| .region <| .m rfl rfl <| .m rfl rfl <| .y (vZ (us := [_]) (c := .aggI [_]) Tryz.underlying38 inf3 rfl (by decide) (by decide) ⟨rfl, rfl, rfl, trivial⟩ rfl) rfl <| .y (aX Tryz.underlying38 inf3 rfl rfl rfl rfl (by simp only [AV.len, gY]; done) rfl rfl (by simp [AV.len]; done) rfl (by omega)) rfl <| .s rfl rfl <| .nil <| .region <| .x (jZ rfl rfl ⟨by omega, by omega⟩) rfl <| .m rfl rfl <| .nil ?_
    exact ⟨⟨k + 1, by omega⟩, by (try dsimp only); omega, StLe.mk [(1000, 1016)] rfl rfl ⟨⟨_, rfl, by rfl, rfl⟩, ⟨_, rfl, by rfl, rfl⟩, ⟨_, rfl, by rfl, rfl⟩, ⟨_, rfl, by (simp only [AV.ren]; congr 1; omega), rfl⟩, ⟨_, rfl, by rfl, rfl⟩, ⟨_, rfl, by rfl, rfl⟩, trivial⟩ ⟨⟨_, _, rfl, rfl, rfl, rfl, id, rfl⟩, ⟨_, _, rfl, rfl, rfl, rfl, id, rfl⟩, ⟨_, _, rfl, rfl, by (simp only [AV.ren]; rw [tX]; congr 3; omega), rfl, id, rfl⟩, trivial⟩⟩
   ·simp only [decide_eq_false_iff_not] at hc32
    refine .skip <| .region <| .m rfl rfl <| .m rfl rfl <| .y (vZ (us := [_]) (c := .aggI [_]) Tryz.underlying38 inf3 rfl (by decide) (by decide) ⟨rfl, rfl, rfl, trivial⟩ rfl) rfl <| .y (aX Tryz.underlying38 inf3 rfl rfl rfl rfl (by simp only [AV.len, gY]; done) rfl rfl (by simp [AV.len]; done) rfl (by omega)) rfl <| .s rfl rfl <| .nil <| .region <| .x (jZ rfl rfl ⟨by omega, by omega⟩) rfl <| .m rfl rfl <| .nil ?_
    exact ⟨⟨k + 1, by omega⟩, by (try dsimp only); omega, StLe.mk [(1000, 1016)] rfl rfl ⟨⟨_, rfl, by rfl, rfl⟩, ⟨_, rfl, by rfl, rfl⟩, ⟨_, rfl, by rfl, rfl⟩, ⟨_, rfl, by (simp only [AV.ren]; congr 1; omega), rfl⟩, ⟨_, rfl, by rfl, rfl⟩, ⟨_, rfl, by rfl, rfl⟩, trivial⟩ ⟨⟨_, _, rfl, rfl, rfl, rfl, id, rfl⟩, ⟨_, _, rfl, rfl, rfl, rfl, id, rfl⟩, ⟨_, _, rfl, rfl, by (simp only [AV.ren]; rw [tX]; congr 3; omega), rfl, id, rfl⟩, trivial⟩⟩
  ·simp only [decide_eq_false_iff_not] at hc24
   refine .skip <| .r <| .s rfl rfl <| .nil <| .seq <| .r <| .m rfl rfl <| .x (gZ rfl rfl rfl) rfl <| .nil <| .cond rfl (fun hc32 => ?_) (fun hc32 => ?_)
   ·simp only [decide_eq_true_eq] at hc32
    refine .r <| .m rfl rfl <| .x (jZ rfl rfl ⟨by omega, by omega⟩) rfl <| .s rfl rfl <| .nil <| .region <| .s rfl rfl <| .nil <| .region <| .m rfl rfl <| .m rfl rfl <| .y (vZ (us := [_]) (c := .aggI [_]) Tryz.underlying38 inf3 rfl (by decide) (by decide) ⟨rfl, rfl, rfl, trivial⟩ rfl) rfl <| .y (aX Tryz.underlying38 inf3 rfl rfl rfl rfl (by simp only [AV.len, gY]; done) rfl rfl (by simp [AV.len]; done) rfl (by omega)) rfl <| .s rfl rfl <| .nil <| .region <| .x (jZ rfl rfl ⟨by omega, by omega⟩) rfl <| .m rfl rfl <| .nil ?_
    exact ⟨⟨k + 1, by omega⟩, by (try dsimp only); omega, StLe.mk [(1000, 1016)] rfl rfl ⟨⟨_, rfl, by rfl, rfl⟩, ⟨_, rfl, by rfl, rfl⟩, ⟨_, rfl, by rfl, rfl⟩, ⟨_, rfl, by (simp only [AV.ren]; congr 1; omega), rfl⟩, ⟨_, rfl, by rfl, rfl⟩, ⟨_, rfl, by rfl, rfl⟩, trivial⟩ ⟨⟨_, _, rfl, rfl, rfl, rfl, id, rfl⟩, ⟨_, _, rfl, rfl, rfl, rfl, id, rfl⟩, ⟨_, _, rfl, rfl, by (simp only [AV.ren]; rw [tX]; congr 3; omega), rfl, id, rfl⟩, trivial⟩⟩
   ·simp only [decide_eq_false_iff_not] at hc32
    refine .skip <| .region <| .m rfl rfl <| .m rfl rfl <| .y (vZ (us := [_]) (c := .aggI [_]) Tryz.underlying38 inf3 rfl (by decide) (by decide) ⟨rfl, rfl, rfl, trivial⟩ rfl) rfl <| .y (aX Tryz.underlying38 inf3 rfl rfl rfl rfl (by simp only [AV.len, gY]; done) rfl rfl (by simp [AV.len]; done) rfl (by omega)) rfl <| .s rfl rfl <| .nil <| .region <| .x (jZ rfl rfl ⟨by omega, by omega⟩) rfl <| .m rfl rfl <| .nil ?_
    exact ⟨⟨k + 1, by omega⟩, by (try dsimp only); omega, StLe.mk [(1000, 1016)] rfl rfl ⟨⟨_, rfl, by rfl, rfl⟩, ⟨_, rfl, by rfl, rfl⟩, ⟨_, rfl, by rfl, rfl⟩, ⟨_, rfl, by (simp only [AV.ren]; congr 1; omega), rfl⟩, ⟨_, rfl, by rfl, rfl⟩, ⟨_, rfl, by rfl, rfl⟩, trivial⟩ ⟨⟨_, _, rfl, rfl, rfl, rfl, id, rfl⟩, ⟨_, _, rfl, rfl, rfl, rfl, id, rfl⟩, ⟨_, _, rfl, rfl, by (simp only [AV.ren]; rw [tX]; congr 3; omega), rfl, id, rfl⟩, trivial⟩⟩
 ·simp only [decide_eq_false_iff_not] at hc13
  refine .exit <| .r <| .m rfl rfl <| .x (aZ (U := []) [(500, 1000)] [] (kS k (a - b) (by rw [show k = dl a by omega]; exact sub_lt) (by omega)) Tryz.func49 (by kernel_rfl) rfl rfl rfl (⟨⟨_, rfl, rfl, rfl⟩, trivial⟩) (⟨⟨_, _, rfl, rfl, rfl, rfl, nf, rfl⟩, trivial⟩) (trivial) (⟨nf, trivial⟩) rfl) rfl <| .s rfl rfl <| .nil <| Ev.pre (H2 := [(1000, some ⟨.aggI (dg (a - b)), 3, true⟩)]) ⟨⟨.aggI (dn k (a - b)), dl (a - b), rfl, wP k (a - b) (by rw [show k = dl a by omega]; exact qX sub_lt)⟩, trivial⟩ <| .ret ?_
  exact yZ rfl (.inl rfl) rfl rfl ⟨rfl, trivial⟩
end Go.Proofs.YtcnjekoidgefpaaGreatDoor
namespace Go.Proofs.YtcnjekoidgefpaaGreatDoor
open Go.RowKit
theorem uM (x m : Nat) : ((x : Nat) : Int) / 2 ^ m % 65536 = ((x / 2 ^ m % 65536 : Nat) : Int) := by simp
set_option maxHeartbeats 1000000 in
set_option maxRecDepth 100000 in
theorem qT (a n : Nat) (ha : dl a ≤ 1000) (hn : n ≤ 1000000) : kZ Tryz.prog 89 [.sl 500 0 (dl a) 1, .i64 (n : Int)] [(500, some ⟨.aggI (dg a), 3, false⟩)] (.sl 1000 0 (dl (a / 2 ^ n)) 1) [(1000, some ⟨.aggI (dg (a / 2 ^ n)), 3, true⟩)] := by
 refine mt (nt := 52) Tryz.func89 rfl rfl rfl <| .r <| .s rfl rfl <| .nil <| .seq <| .r <| .m rfl rfl <| .x (pY rfl rfl ⟨by omega, ⟨by omega, by omega⟩, by omega⟩) rfl <| .m rfl rfl <| .x (rZ Tryz.underlying38 rfl) rfl <| .x (gZ rfl rfl rfl) rfl <| .nil <| .cond rfl (fun hc12 => ?_) (fun hc12 => ?_)
 ·simp only [decide_eq_true_eq] at hc12
  refine .r <| .y (dW (z := 1) (c := .aggI []) Tryz.underlying38 inf3 rfl) rfl <| .s rfl rfl <| .nil ?_
  first
   | refine Ev.pre (H2 := [(1000, some ⟨.aggI (dg (a / 2 ^ n)), 3, true⟩)]) ⟨⟨.aggI (dn k (a / 2 ^ n)), dl (a / 2 ^ n), rfl, wP k (a / 2 ^ n) (qX (by rw [show k = dl a - n / 16 by omega]; exact (half_lt a n).resolve_right (by omega)))⟩, trivial⟩ ?_
   | skip
  refine .ret ?_
  first
   | exact yZ rfl (.inl rfl) rfl rfl ⟨rfl, trivial⟩
   | exact yZ rfl (.inl rfl) rfl (by rw [sO (show dl a ≤ n / 16 by omega), fU]) ⟨(by rw [sO (show dl a ≤ n / 16 by omega)]; unfold dg; rw [fU]; rfl), trivial⟩
 ·simp only [decide_eq_false_iff_not] at hc12
  refine .skip <| .r <| .m rfl rfl <| .m rfl rfl <| .x (pY rfl rfl ⟨by omega, ⟨by omega, by omega⟩, by omega⟩) rfl <| .x (bS Tryz.underlying38 inf3.sz rfl (xZ rfl (l := n / 16) (by omega)) rfl (by omega) (by omega)) rfl <| .as (.sl 500 (n / 16) (dl a - n / 16) 1) (by congr 1; omega) <| .s rfl rfl <| .nil <| .r <| .y (dW (z := 1) (c := .aggI []) Tryz.underlying38 inf3 rfl) rfl <| .s rfl rfl <| .nil <| .seq <| .r <| .m rfl rfl <| .x (rZ Tryz.underlying38 rfl) rfl <| .m rfl rfl <| .nil <| .block <| Ev.loop (ι := { k : Nat // k ≤ dl a - n / 16 ∧ n / 16 < dl a }) (fun q => ⟨[(0, .sl 500 (n / 16) (dl a - n / 16) 1), (1, .i64 (n : Int)), (5, .sl 1000 0 q.1 1), (20, .i64 ((dl a - n / 16 : Nat) : Int)), (21, .i64 ((q.1 : Nat) : Int))], [(500, some ⟨.aggI (dg a), 3, false⟩), (1000, some ⟨.aggI (dn q.1 (a / 2 ^ n)), 3, true⟩)], 1008⟩) (fun q => dl a - n / 16 - q.1) ⟨0, Nat.zero_le _, by omega⟩ (StLe.mk [(1000, 1000)] rfl rfl ⟨⟨_, rfl, by first | rfl | (simp only [AV.ren]; congr 1; omega), rfl⟩, ⟨_, rfl, by first | rfl | (simp only [AV.ren]; congr 1; omega), rfl⟩, ⟨_, rfl, by first | rfl | (simp only [AV.ren]; congr 1; omega), rfl⟩, ⟨_, rfl, by first | rfl | (simp only [AV.ren]; congr 1; omega), rfl⟩, ⟨_, rfl, by first | rfl | (simp only [AV.ren]; congr 1; omega), rfl⟩, trivial⟩ ⟨⟨_, _, rfl, rfl, rfl, rfl, id, rfl⟩, ⟨_, _, rfl, rfl, rfl, rfl, id, rfl⟩, trivial⟩) ?_
  rintro ⟨k, hk, hlt⟩
  try dsimp only
  have hS := half_step a n k
  have hA : k < dl a - n / 16 → (dg a).getD (n / 16 + k) 0 = (dk a (n / 16 + k) : Int) := fun h => aW _ _ _ (by omega)
  have hB : k + 1 < dl a - n / 16 → (dg a).getD (n / 16 + (k + 1)) 0 = (dk a (n / 16 + k + 1) : Int) := fun h => aW _ _ _ (by omega)
  have hz : dl a ≤ n / 16 + k + 1 → dk a (n / 16 + k + 1) = 0 := iM
  have hl := gY k (a / 2 ^ n)
  have d1 := qU a (n / 16 + k)
  have d2 := qU a (n / 16 + k + 1)
  have l1 := dX a
  refine .r <| .x (gZ rfl rfl rfl) rfl <| .nil <| .seq <| .cond rfl (fun hc22 => ?_) (fun hc22 => ?_)
  ·simp only [decide_eq_true_eq] at hc22
   refine .skip <| .seq <| .block <| .r <| .m rfl rfl <| .s rfl rfl <| .nil <| .r <| .m rfl rfl <| .m rfl rfl <| .x (jQ Tryz.underlying38 inf3.sz rfl rfl rfl (by omega)) rfl <| .x (fZ Tryz.underlying3 rfl rfl rfl rfl (by simp only [AV.len]; omega)) rfl <| .as (.i64 (dk a (n / 16 + k) : Int)) (congrArg AV.i64 (hA (by omega))) <| .s rfl rfl <| .nil <| .seq <| .r <| .m rfl rfl <| .x (jZ rfl rfl ⟨by omega, by omega⟩) rfl <| .m rfl rfl <| .x (rZ Tryz.underlying38 rfl) rfl <| .x (gZ rfl rfl rfl) rfl <| .nil <| .cond rfl (fun hc32 => ?_) (fun hc32 => ?_)
   ·simp only [decide_eq_true_eq] at hc32
    refine .region <| .m rfl rfl <| .m rfl rfl <| .m rfl rfl <| .x (jZ rfl rfl ⟨by omega, by omega⟩) rfl <| .x (jQ Tryz.underlying38 inf3.sz rfl rfl (i := k + 1) (by omega) (by omega)) rfl <| .x (fZ Tryz.underlying3 rfl rfl rfl rfl (by simp only [AV.len]; omega)) rfl <| .as (.i64 (dk a (n / 16 + k + 1) : Int)) (congrArg AV.i64 (hB (by omega))) <| .x (uY rfl rfl ⟨by omega, by omega⟩) rfl <| .x (jZ rfl rfl ⟨by omega, by omega⟩) rfl <| .as (.i64 ((dk a (n / 16 + k) + 65536 * dk a (n / 16 + k + 1) : Nat) : Int)) (by congr 1; omega) <| .s rfl rfl <| .nil <| .region <| .m rfl rfl <| .m rfl rfl <| .m rfl rfl <| .x (qY rfl rfl ⟨by omega, by omega⟩) rfl <| .x (oJ (n := n % 16) rfl rfl (by simp only [tW]; rw [show (n : Int) % 16 = ((n % 16 : Nat) : Int) by omega]) (by omega)) rfl <| .x (qY rfl rfl ⟨Int.ediv_nonneg (by omega) (Int.le_of_lt (Int.pow_pos (by decide))), by omega⟩) rfl ?_
    first
     | refine .as (.i64 (((dk a (n / 16 + k) + 65536 * dk a (n / 16 + k + 1)) / 2 ^ (n % 16) % 65536 : Nat) : Int)) (congrArg AV.i64 (uM _ _)) ?_
     | refine .as (.i64 ((dk a (n / 16 + k) / 2 ^ (n % 16) % 65536 : Nat) : Int)) (congrArg AV.i64 (uM _ _)) ?_
    refine .y (vZ (us := [_]) (c := .aggI [_]) Tryz.underlying38 inf3 rfl (by decide) (by decide) ⟨rfl, rfl, rfl, trivial⟩ rfl) rfl <| .y (aX Tryz.underlying38 inf3 rfl rfl rfl rfl (by simp only [AV.len, gY]; done) rfl rfl (by simp [AV.len]; done) rfl (by omega)) rfl <| .s rfl rfl <| .nil <| .region <| .x (jZ rfl rfl ⟨by omega, by omega⟩) rfl <| .m rfl rfl <| .nil ?_
    exact ⟨⟨k + 1, by omega, hlt⟩, by (try dsimp only); omega, StLe.mk [(1000, 1016)] rfl rfl ⟨⟨_, rfl, by rfl, rfl⟩, ⟨_, rfl, by rfl, rfl⟩, ⟨_, rfl, by rfl, rfl⟩, ⟨_, rfl, by rfl, rfl⟩, ⟨_, rfl, by rfl, rfl⟩, trivial⟩ ⟨⟨_, _, rfl, rfl, rfl, rfl, id, rfl⟩, ⟨_, _, rfl, rfl, by first | (simp only [AV.ren]; rw [tX, ← hS]; done) | (simp only [AV.ren]; rw [tX, ← hS, hz (by omega), Nat.mul_zero, Nat.add_zero]), rfl, id, rfl⟩, trivial⟩⟩
   ·simp only [decide_eq_false_iff_not] at hc32
    refine .skip <| .region <| .m rfl rfl <| .m rfl rfl <| .m rfl rfl <| .x (qY rfl rfl ⟨by omega, by omega⟩) rfl <| .x (oJ (n := n % 16) rfl rfl (by simp only [tW]; rw [show (n : Int) % 16 = ((n % 16 : Nat) : Int) by omega]) (by omega)) rfl <| .x (qY rfl rfl ⟨Int.ediv_nonneg (by omega) (Int.le_of_lt (Int.pow_pos (by decide))), by omega⟩) rfl ?_
    first
     | refine .as (.i64 (((dk a (n / 16 + k) + 65536 * dk a (n / 16 + k + 1)) / 2 ^ (n % 16) % 65536 : Nat) : Int)) (congrArg AV.i64 (uM _ _)) ?_
     | refine .as (.i64 ((dk a (n / 16 + k) / 2 ^ (n % 16) % 65536 : Nat) : Int)) (congrArg AV.i64 (uM _ _)) ?_
    refine .y (vZ (us := [_]) (c := .aggI [_]) Tryz.underlying38 inf3 rfl (by decide) (by decide) ⟨rfl, rfl, rfl, trivial⟩ rfl) rfl <| .y (aX Tryz.underlying38 inf3 rfl rfl rfl rfl (by simp only [AV.len, gY]; done) rfl rfl (by simp [AV.len]; done) rfl (by omega)) rfl <| .s rfl rfl <| .nil <| .region <| .x (jZ rfl rfl ⟨by omega, by omega⟩) rfl <| .m rfl rfl <| .nil ?_
    exact ⟨⟨k + 1, by omega, hlt⟩, by (try dsimp only); omega, StLe.mk [(1000, 1016)] rfl rfl ⟨⟨_, rfl, by rfl, rfl⟩, ⟨_, rfl, by rfl, rfl⟩, ⟨_, rfl, by rfl, rfl⟩, ⟨_, rfl, by rfl, rfl⟩, ⟨_, rfl, by rfl, rfl⟩, trivial⟩ ⟨⟨_, _, rfl, rfl, rfl, rfl, id, rfl⟩, ⟨_, _, rfl, rfl, by first | (simp only [AV.ren]; rw [tX, ← hS]; done) | (simp only [AV.ren]; rw [tX, ← hS, hz (by omega), Nat.mul_zero, Nat.add_zero]), rfl, id, rfl⟩, trivial⟩⟩
  ·simp only [decide_eq_false_iff_not] at hc22
   refine .exit <| .r <| .m rfl rfl <| .x (aZ (U := []) [(500, 1000)] [] (kS k (a / 2 ^ n) (by rw [show k = dl a - n / 16 by omega]; exact (half_lt a n).resolve_right (by omega)) (by omega)) Tryz.func49 (by kernel_rfl) rfl rfl rfl (⟨⟨_, rfl, rfl, rfl⟩, trivial⟩) (⟨⟨_, _, rfl, rfl, rfl, rfl, nf, rfl⟩, trivial⟩) (trivial) (⟨nf, trivial⟩) rfl) rfl <| .s rfl rfl <| .nil ?_
   first
    | refine Ev.pre (H2 := [(1000, some ⟨.aggI (dg (a / 2 ^ n)), 3, true⟩)]) ⟨⟨.aggI (dn k (a / 2 ^ n)), dl (a / 2 ^ n), rfl, wP k (a / 2 ^ n) (qX (by rw [show k = dl a - n / 16 by omega]; exact (half_lt a n).resolve_right (by omega)))⟩, trivial⟩ ?_
    | skip
   refine .ret ?_
   first
    | exact yZ rfl (.inl rfl) rfl rfl ⟨rfl, trivial⟩
    | exact yZ rfl (.inl rfl) rfl (by rw [sO (show dl a ≤ n / 16 by omega), fU]) ⟨(by rw [sO (show dl a ≤ n / 16 by omega)]; unfold dg; rw [fU]; rfl), trivial⟩
end Go.Proofs.YtcnjekoidgefpaaGreatDoor
