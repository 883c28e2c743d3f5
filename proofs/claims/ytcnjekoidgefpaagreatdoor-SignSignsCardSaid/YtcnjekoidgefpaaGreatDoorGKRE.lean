/-
  Texts of this claim.
-/
import Derived.Test.YtcnjekoidgefpaaGreatDoorGEE
import Derived.Test.YtcnjekoidgefpaaGreatDoorGBE
import Derived.Test.YtcnjekoidgefpaaGreatDoorGRE
namespace Go.Proofs.YtcnjekoidgefpaaGreatDoor
open Go.RowKit
set_option maxRecDepth 100000 in
theorem trim_ev (l : List Int) (o n : Nat) (h : o + n ≤ l.length) (hn : n ≤ 1000000) : mZ Tryz.prog 49 [.sl 500 o n 1] [(500, some ⟨.aggI l, 3, false⟩)] (.sl 500 o (tl l o n) 1) [(500, some ⟨.aggI l, 3, false⟩)] := by
 refine eZ (nt := 21) Tryz.func49 rfl rfl (Nat.le_of_ble_eq_true rfl) <| .seq <| .region <| .s rfl rfl <| .nil <| .seq <| .region <| .m rfl rfl <| .x (vZ Tryz.underlying38 rfl) rfl <| .s rfl rfl <| .nil <| .seq <| .block <| Ev.loop (ι := { k : Nat // k ≤ n ∧ tl l o k = tl l o n }) (fun q => ⟨[(0, .sl 500 o n 1), (3, .i64 ((q.1 : Nat) : Int))], [(500, some ⟨.aggI l, 3, false⟩)], 1000⟩) (fun q => q.1) ⟨n, Nat.le_refl _, rfl⟩ (StLe.mk [] rfl rfl ⟨⟨_, rfl, by first | rfl | (simp only [AV.ren]; congr 1; omega), rfl⟩, ⟨_, rfl, by first | rfl | (simp only [AV.ren]; congr 1; omega), rfl⟩, trivial⟩ ⟨⟨_, _, rfl, rfl, rfl, rfl, id, rfl⟩, trivial⟩) ?_
 rintro ⟨k, hk, hz⟩
 try dsimp only
 refine .seq <| .seq <| .region <| .m rfl rfl <| .x (iZ rfl rfl rfl) rfl <| .m rfl rfl <| .split (fun hg8 => ?_) (fun hg8 => ?_)
 ·simp only [decide_eq_true_eq] at hg8
  refine .q (fZ rfl) ⟨_, rfl, rfl⟩ rfl <| .q (fZ rfl) ⟨_, rfl, rfl⟩ rfl <| .q (zY rfl rfl ⟨by omega, by omega⟩) ⟨_, rfl, rfl⟩ rfl <| .q (ap_idx Tryz.underlying38 inf3.sz rfl rfl (i := k - 1) (by omega) (by omega)) ⟨_, rfl, rfl⟩ rfl <| .q (kZ Tryz.underlying3 rfl rfl rfl rfl (by simp only [AV.len]; omega)) ⟨_, rfl, rfl⟩ rfl <| .q (iZ rfl rfl rfl) ⟨_, rfl, rfl⟩ rfl <| .x (yY rfl rfl rfl) rfl <| .nil <| .cond rfl (fun hc15 => ?_) (fun hc15 => ?_)
  ·simp only [beq_iff_eq] at hc15
   refine .skip <| .block <| .region <| .m rfl rfl <| .x (zY rfl rfl ⟨by omega, by omega⟩) rfl <| .s rfl rfl <| .nil ?_
   exact ⟨⟨k - 1, by omega, by rw [← hz]; exact tl_zero l o k (by omega) hc15⟩, by (try dsimp only); omega, StLe.mk [] rfl rfl ⟨⟨_, rfl, by rfl, rfl⟩, ⟨_, rfl, by simp only [AV.ren]; congr 1; omega, rfl⟩, trivial⟩ ⟨⟨_, _, rfl, rfl, rfl, rfl, id, rfl⟩, trivial⟩⟩
  ·simp only [ne_eq, beq_eq_false_iff_ne] at hc15
   refine .exit <| .seq <| .region <| .m rfl rfl <| .m rfl rfl <| .x (ap_slice_sl_hi Tryz.underlying38 inf3.sz rfl (oY rfl rfl) (by omega)) rfl <| .s rfl rfl <| .nil <| .ret ?_
   have e := tl_stop l o k (by exact .inr hc15)
   exact iY rfl (.inl rfl) rfl (by rw [← hz, e]) ⟨rfl, trivial⟩
 ·simp only [decide_eq_false_iff_not] at hg8
  refine .no ⟨_, rfl, rfl⟩ rfl <| .no ⟨_, rfl, rfl⟩ rfl <| .no ⟨_, rfl, rfl⟩ rfl <| .no ⟨_, rfl, rfl⟩ rfl <| .no ⟨_, rfl, rfl⟩ rfl <| .no ⟨_, rfl, rfl⟩ rfl <| .x (nY rfl rfl rfl) rfl <| .nil <| .cond_false rfl rfl <| .exit <| .seq <| .region <| .m rfl rfl <| .m rfl rfl <| .x (ap_slice_sl_hi Tryz.underlying38 inf3.sz rfl (oY rfl rfl) (by omega)) rfl <| .s rfl rfl <| .nil <| .ret ?_
  have e := tl_stop l o k (by left; omega)
  exact iY rfl (.inl rfl) rfl (by rw [← hz, e]) ⟨rfl, trivial⟩
theorem trim_dn (n v : Nat) (h : v < 65536 ^ n) (hn : n ≤ 1000000) : mZ Tryz.prog 49 [.sl 500 0 n 1] [(500, some ⟨.aggI (dn n v), 3, false⟩)] (.sl 500 0 (dl v) 1) [(500, some ⟨.aggI (dn n v), 3, false⟩)] :=
 (trim_ev (dn n v) 0 n (by rw [pY]; omega) hn).as (by rw [tl_dn n v n (Nat.le_refl _) h])
theorem pre_dn (n v : Nat) (h : dl v ≤ n) : (AV.aggI (dg v)).list = (AV.aggI (dn n v)).list.take (dl v) := by
 simp only [AV.list, AV.parts, Option.getD_some]
 rw [← List.map_take, dn_take n (dl v) v h]; rfl
theorem digit_cast (x k : Nat) : ((x / 65536 ^ k : Nat) : Int) % 65536 = ((x / 65536 ^ k % 65536 : Nat) : Int) := by simp
set_option maxRecDepth 100000 in
theorem pX (x : Nat) (hx : x < 9223372036854775807) : mZ Tryz.prog 42 [.i64 (x : Int)] [] (.sl 1000 0 (dl x) 1) [(1000, some ⟨.aggI (dg x), 3, true⟩)] := by
 refine eZ (nt := 15) Tryz.func42 rfl rfl (Nat.le_of_ble_eq_true rfl) <| .seq <| .region <| .s rfl rfl <| .nil <| .seq <| .region <| .y (kW (z := 1) (c := .aggI []) Tryz.underlying38 inf3 rfl) rfl <| .s rfl rfl <| .nil <| .seq <| .block <| Ev.loop (ι := { k : Nat // k ≤ dl x }) (fun q => ⟨[(0, .i64 ((x / 65536 ^ q.1 : Nat) : Int)), (3, .sl 1000 0 q.1 1)], [(1000, some ⟨.aggI (dn q.1 x), 3, true⟩)], 1008⟩) (fun q => dl x - q.1) ⟨0, Nat.zero_le _⟩ (StLe.mk [(1000, 1000)] rfl rfl ⟨⟨_, rfl, by (simp only [AV.ren]; simp), rfl⟩, ⟨_, rfl, by rfl, rfl⟩, trivial⟩ ⟨⟨_, _, rfl, rfl, rfl, rfl, id, rfl⟩, trivial⟩) ?_
 rintro ⟨k, hk⟩
 try dsimp only
 have hd := div_pos_iff x k
 have hb : x / 65536 ^ k ≤ x := Nat.div_le_self _ _
 have hl := pY k x
 have hm : dl x ≤ 4 := uX (by omega)
 refine .seq <| .seq <| .region <| .m rfl rfl <| .x (iZ rfl rfl rfl) rfl <| .nil <| .cond rfl (fun hc6 => ?_) (fun hc6 => ?_)
 ·simp only [decide_eq_true_eq] at hc6
  refine .skip <| .block <| .seq <| .region <| .m rfl rfl <| .m rfl rfl <| .x (aX rfl rfl ⟨by omega, by omega⟩) rfl <| .y (xZ (us := [_]) (c := .aggI [_]) Tryz.underlying38 inf3 rfl (by decide) (by decide) ⟨rfl, rfl, rfl, trivial⟩ rfl) rfl <| .y (kX Tryz.underlying38 inf3 rfl rfl rfl rfl (by simp only [AV.len, pY]; done) rfl rfl (by simp [AV.len]; done) rfl (by omega)) rfl <| .s rfl rfl <| .nil <| .region <| .m rfl rfl <| .x (xY rfl rfl ⟨by omega, ⟨by omega, by omega⟩, by omega⟩) rfl <| .s rfl rfl <| .nil ?_
  exact ⟨⟨k + 1, by omega⟩, by (try dsimp only); omega, StLe.mk [(1000, 1016)] rfl rfl ⟨⟨_, rfl, by (simp only [AV.ren]; congr 1; rw [Nat.pow_succ, ← Nat.div_div_eq_div_mul]; simp), rfl⟩, ⟨_, rfl, by rfl, rfl⟩, trivial⟩ ⟨⟨_, _, rfl, rfl, by (simp only [AV.ren]; rw [dn_succ, digit_cast]), rfl, id, rfl⟩, trivial⟩⟩
 ·simp only [decide_eq_false_iff_not] at hc6
  refine .exit <| .seq <| .region <| .m rfl rfl <| .s rfl rfl <| .nil <| .ret ?_
  have e : k = dl x := by omega
  exact iY rfl (.inl rfl) rfl (by rw [e]) ⟨(by rw [e]; rfl), trivial⟩
set_option maxHeartbeats 1000000 in
set_option maxRecDepth 100000 in
theorem kU (a b : Nat) (ha : dl a ≤ 1000) (hb : dl b ≤ 1000) : mZ Tryz.prog 72 [.sl 500 0 (dl a) 1, .sl 501 0 (dl b) 1] [(500, some ⟨.aggI (dg a), 3, false⟩), (501, some ⟨.aggI (dg b), 3, false⟩)] (.sl 1000 0 (dl (a + b)) 1) [(1000, some ⟨.aggI (dg (a + b)), 3, true⟩)] := by
 refine eZ (nt := 54) Tryz.func72 rfl rfl (Nat.le_of_ble_eq_true rfl) <| .seq <| .region <| .s rfl rfl <| .nil <| .seq <| .region <| .y (kW (z := 1) (c := .aggI []) Tryz.underlying38 inf3 rfl) rfl <| .s rfl rfl <| .nil <| .seq <| .region <| .s rfl rfl <| .nil <| .seq <| .seq <| .region <| .s rfl rfl <| .nil <| .block <| Ev.loop (ι := { k : Nat // k ≤ dl a + dl b + 1 }) (fun q => ⟨[(0, .sl 500 0 (dl a) 1), (1, .sl 501 0 (dl b) 1), (5, .sl 1000 0 q.1 1), (6, .i64 (ck a b q.1 : Int)), (7, .i64 ((q.1 : Nat) : Int))], [(500, some ⟨.aggI (dg a), 3, false⟩), (501, some ⟨.aggI (dg b), 3, false⟩), (1000, some ⟨.aggI (dn q.1 (a + b)), 3, true⟩)], 1008⟩) (fun q => dl a + dl b + 2 - q.1) ⟨0, by omega⟩ (StLe.mk [(1000, 1000)] rfl rfl ⟨⟨_, rfl, by rfl, rfl⟩, ⟨_, rfl, by rfl, rfl⟩, ⟨_, rfl, by rfl, rfl⟩, ⟨_, rfl, by (simp only [AV.ren]; rw [ck_zero]; rfl), rfl⟩, ⟨_, rfl, by rfl, rfl⟩, trivial⟩ ⟨⟨_, _, rfl, rfl, rfl, rfl, id, rfl⟩, ⟨_, _, rfl, rfl, rfl, rfl, id, rfl⟩, ⟨_, _, rfl, rfl, rfl, rfl, id, rfl⟩, trivial⟩) ?_
 rintro ⟨k, hk⟩
 try dsimp only
 have hS := add_step a b k
 have hc := ck_le a b k
 have hA : k < dl a → (dg a).getD k 0 = (dk a k : Int) := fun h => iW _ _ _ h
 have hB : k < dl b → (dg b).getD k 0 = (dk b k : Int) := fun h => iW _ _ _ h
 have hA0 : dl a ≤ k → dk a k = 0 := dk_high
 have hB0 : dl b ≤ k → dk b k = 0 := dk_high
 have hE : dl a ≤ k → dl b ≤ k → ck a b (k + 1) = 0 := ck_end
 have hl := pY k (a + b)
 have d1 := rU a k
 have d2 := rU b k
 have d3 := rU (a + b) k
 have l1 := mX a
 have l2 := mX b
 have hP : dl a < k → dl b < k → ck a b k = 0 := ck_prev
 refine .seq <| .seq <| .region <| .m rfl rfl <| .m rfl rfl <| .x (vZ Tryz.underlying38 rfl) rfl <| .x (iZ rfl rfl rfl) rfl <| .m rfl rfl <| .split (fun hg13 => ?_) (fun hg13 => ?_)
 ·simp only [decide_eq_true_eq] at hg13
  refine .no ⟨_, rfl, rfl⟩ rfl <| .no ⟨_, rfl, rfl⟩ rfl <| .no ⟨_, rfl, rfl⟩ rfl <| .no ⟨_, rfl, rfl⟩ rfl <| .x (yY rfl rfl rfl) rfl <| .m rfl rfl <| .no ⟨_, rfl, rfl⟩ rfl <| .no ⟨_, rfl, rfl⟩ rfl <| .x (yY rfl rfl rfl) rfl <| .nil <| .cond_true rfl rfl <| .skip <| .seq <| .block <| .seq <| .seq <| .region <| .m rfl rfl <| .m rfl rfl <| .x (vZ Tryz.underlying38 rfl) rfl <| .x (iZ rfl rfl rfl) rfl <| .nil <| .cond rfl (fun hc28 => ?_) (fun hc28 => ?_)
  ·simp only [decide_eq_true_eq] at hc28
   refine .region <| .m rfl rfl <| .m rfl rfl <| .m rfl rfl <| .x (fY Tryz.underlying38 inf3.sz rfl rfl rfl (by omega)) rfl <| .x (kZ Tryz.underlying3 rfl rfl rfl rfl (by simp only [AV.len]; omega)) rfl <| .x (lZ rfl rfl ⟨by omega, by omega⟩) rfl <| .s rfl rfl <| .nil <| .seq <| .seq <| .region <| .m rfl rfl <| .m rfl rfl <| .x (vZ Tryz.underlying38 rfl) rfl <| .x (iZ rfl rfl rfl) rfl <| .nil <| .cond rfl (fun hc38 => ?_) (fun hc38 => ?_)
   ·simp only [decide_eq_true_eq] at hc38
    refine .region <| .m rfl rfl <| .m rfl rfl <| .m rfl rfl <| .x (fY Tryz.underlying38 inf3.sz rfl rfl rfl (by omega)) rfl <| .x (kZ Tryz.underlying3 rfl rfl rfl rfl (by simp only [AV.len]; omega)) rfl <| .x (lZ rfl rfl ⟨by omega, by omega⟩) rfl <| .s rfl rfl <| .nil <| .seq <| .region <| .m rfl rfl <| .m rfl rfl <| .x (aX rfl rfl ⟨by omega, by omega⟩) rfl <| .y (xZ (us := [_]) (c := .aggI [_]) Tryz.underlying38 inf3 rfl (by decide) (by decide) ⟨rfl, rfl, rfl, trivial⟩ rfl) rfl <| .y (kX Tryz.underlying38 inf3 rfl rfl rfl rfl (by simp only [AV.len, pY]; done) rfl rfl (by simp [AV.len]; done) rfl (by omega)) rfl <| .s rfl rfl <| .nil <| .region <| .m rfl rfl <| .x (xY rfl rfl ⟨by omega, ⟨by omega, by omega⟩, by omega⟩) rfl <| .s rfl rfl <| .nil <| .region <| .m rfl rfl <| .x (lZ rfl rfl ⟨by omega, by omega⟩) rfl <| .s rfl rfl <| .nil ?_
    exact ⟨⟨k + 1, by omega⟩, by (try dsimp only); omega, StLe.mk [(1000, 1016)] rfl rfl ⟨⟨_, rfl, by rfl, rfl⟩, ⟨_, rfl, by rfl, rfl⟩, ⟨_, rfl, by rfl, rfl⟩, ⟨_, rfl, by (simp only [AV.ren]; congr 1; omega), rfl⟩, ⟨_, rfl, by (simp only [AV.ren]; congr 1), rfl⟩, trivial⟩ ⟨⟨_, _, rfl, rfl, rfl, rfl, id, rfl⟩, ⟨_, _, rfl, rfl, rfl, rfl, id, rfl⟩, ⟨_, _, rfl, rfl, by (simp only [AV.ren]; rw [xX]; congr 3; omega), rfl, id, rfl⟩, trivial⟩⟩
   ·simp only [decide_eq_false_iff_not] at hc38
    refine .skip <| .seq <| .region <| .m rfl rfl <| .m rfl rfl <| .x (aX rfl rfl ⟨by omega, by omega⟩) rfl <| .y (xZ (us := [_]) (c := .aggI [_]) Tryz.underlying38 inf3 rfl (by decide) (by decide) ⟨rfl, rfl, rfl, trivial⟩ rfl) rfl <| .y (kX Tryz.underlying38 inf3 rfl rfl rfl rfl (by simp only [AV.len, pY]; done) rfl rfl (by simp [AV.len]; done) rfl (by omega)) rfl <| .s rfl rfl <| .nil <| .region <| .m rfl rfl <| .x (xY rfl rfl ⟨by omega, ⟨by omega, by omega⟩, by omega⟩) rfl <| .s rfl rfl <| .nil <| .region <| .m rfl rfl <| .x (lZ rfl rfl ⟨by omega, by omega⟩) rfl <| .s rfl rfl <| .nil ?_
    exact ⟨⟨k + 1, by omega⟩, by (try dsimp only); omega, StLe.mk [(1000, 1016)] rfl rfl ⟨⟨_, rfl, by rfl, rfl⟩, ⟨_, rfl, by rfl, rfl⟩, ⟨_, rfl, by rfl, rfl⟩, ⟨_, rfl, by (simp only [AV.ren]; congr 1; omega), rfl⟩, ⟨_, rfl, by (simp only [AV.ren]; congr 1), rfl⟩, trivial⟩ ⟨⟨_, _, rfl, rfl, rfl, rfl, id, rfl⟩, ⟨_, _, rfl, rfl, rfl, rfl, id, rfl⟩, ⟨_, _, rfl, rfl, by (simp only [AV.ren]; rw [xX]; congr 3; omega), rfl, id, rfl⟩, trivial⟩⟩
  ·simp only [decide_eq_false_iff_not] at hc28
   refine .skip <| .seq <| .seq <| .region <| .m rfl rfl <| .m rfl rfl <| .x (vZ Tryz.underlying38 rfl) rfl <| .x (iZ rfl rfl rfl) rfl <| .nil <| .cond rfl (fun hc38 => ?_) (fun hc38 => ?_)
   ·simp only [decide_eq_true_eq] at hc38
    refine .region <| .m rfl rfl <| .m rfl rfl <| .m rfl rfl <| .x (fY Tryz.underlying38 inf3.sz rfl rfl rfl (by omega)) rfl <| .x (kZ Tryz.underlying3 rfl rfl rfl rfl (by omega)) rfl <| .x (lZ rfl rfl ⟨by omega, by omega⟩) rfl <| .s rfl rfl <| .nil <| .seq <| .region <| .m rfl rfl <| .m rfl rfl <| .x (aX rfl rfl ⟨by omega, by omega⟩) rfl <| .y (xZ (us := [_]) (c := .aggI [_]) Tryz.underlying38 inf3 rfl (by decide) (by decide) ⟨rfl, rfl, rfl, trivial⟩ rfl) rfl <| .y (kX Tryz.underlying38 inf3 rfl rfl rfl rfl (by omega) rfl rfl (by omega) rfl (by omega)) rfl <| .s rfl rfl <| .nil <| .region <| .m rfl rfl <| .x (xY rfl rfl ⟨by omega, ⟨by omega, by omega⟩, by omega⟩) rfl <| .s rfl rfl <| .nil <| .region <| .m rfl rfl <| .x (lZ rfl rfl ⟨by omega, by omega⟩) rfl <| .s rfl rfl <| .nil ?_
    exact ⟨⟨k + 1, by omega⟩, by (try dsimp only); omega, StLe.mk [(1000, 1016)] rfl rfl ⟨⟨_, rfl, by rfl, rfl⟩, ⟨_, rfl, by rfl, rfl⟩, ⟨_, rfl, by rfl, rfl⟩, ⟨_, rfl, by (simp only [AV.ren]; congr 1; omega), rfl⟩, ⟨_, rfl, by (simp only [AV.ren]; congr 1), rfl⟩, trivial⟩ ⟨⟨_, _, rfl, rfl, rfl, rfl, id, rfl⟩, ⟨_, _, rfl, rfl, rfl, rfl, id, rfl⟩, ⟨_, _, rfl, rfl, by (simp only [AV.ren]; rw [xX]; congr 3; omega), rfl, id, rfl⟩, trivial⟩⟩
   ·simp only [decide_eq_false_iff_not] at hc38
    refine .skip <| .seq <| .region <| .m rfl rfl <| .m rfl rfl <| .x (aX rfl rfl ⟨by omega, by omega⟩) rfl <| .y (xZ (us := [_]) (c := .aggI [_]) Tryz.underlying38 inf3 rfl (by decide) (by decide) ⟨rfl, rfl, rfl, trivial⟩ rfl) rfl <| .y (kX Tryz.underlying38 inf3 rfl rfl rfl rfl (by omega) rfl rfl (by omega) rfl (by omega)) rfl <| .s rfl rfl <| .nil <| .region <| .m rfl rfl <| .x (xY rfl rfl ⟨by omega, ⟨by omega, by omega⟩, by omega⟩) rfl <| .s rfl rfl <| .nil <| .region <| .m rfl rfl <| .x (lZ rfl rfl ⟨by omega, by omega⟩) rfl <| .s rfl rfl <| .nil ?_
    exact ⟨⟨k + 1, by omega⟩, by (try dsimp only); omega, StLe.mk [(1000, 1016)] rfl rfl ⟨⟨_, rfl, by rfl, rfl⟩, ⟨_, rfl, by rfl, rfl⟩, ⟨_, rfl, by rfl, rfl⟩, ⟨_, rfl, by (simp only [AV.ren]; congr 1; omega), rfl⟩, ⟨_, rfl, by (simp only [AV.ren]; congr 1), rfl⟩, trivial⟩ ⟨⟨_, _, rfl, rfl, rfl, rfl, id, rfl⟩, ⟨_, _, rfl, rfl, rfl, rfl, id, rfl⟩, ⟨_, _, rfl, rfl, by (simp only [AV.ren]; rw [xX]; congr 3; omega), rfl, id, rfl⟩, trivial⟩⟩
 ·simp only [decide_eq_false_iff_not] at hg13
  refine .q (fZ rfl) ⟨_, rfl, rfl⟩ rfl <| .q (fZ rfl) ⟨_, rfl, rfl⟩ rfl <| .q (vZ Tryz.underlying38 rfl) ⟨_, rfl, rfl⟩ rfl <| .q (iZ rfl rfl rfl) ⟨_, rfl, rfl⟩ rfl <| .x (nY rfl rfl rfl) rfl <| .m rfl rfl <| .split (fun hg19 => ?_) (fun hg19 => ?_)
  ·simp only [decide_eq_true_eq] at hg19
   refine .no ⟨_, rfl, rfl⟩ rfl <| .no ⟨_, rfl, rfl⟩ rfl <| .x (yY rfl rfl rfl) rfl <| .nil <| .cond_true rfl rfl <| .skip <| .seq <| .block <| .seq <| .seq <| .region <| .m rfl rfl <| .m rfl rfl <| .x (vZ Tryz.underlying38 rfl) rfl <| .x (iZ rfl rfl rfl) rfl <| .nil <| .cond rfl (fun hc28 => ?_) (fun hc28 => ?_)
   ·simp only [decide_eq_true_eq] at hc28
    refine .region <| .m rfl rfl <| .m rfl rfl <| .m rfl rfl <| .x (fY Tryz.underlying38 inf3.sz rfl rfl rfl (by omega)) rfl <| .x (kZ Tryz.underlying3 rfl rfl rfl rfl (by omega)) rfl <| .x (lZ rfl rfl ⟨by omega, by omega⟩) rfl <| .s rfl rfl <| .nil <| .seq <| .seq <| .region <| .m rfl rfl <| .m rfl rfl <| .x (vZ Tryz.underlying38 rfl) rfl <| .x (iZ rfl rfl rfl) rfl <| .nil <| .cond rfl (fun hc38 => ?_) (fun hc38 => ?_)
    ·simp only [decide_eq_true_eq] at hc38
     refine .region <| .m rfl rfl <| .m rfl rfl <| .m rfl rfl <| .x (fY Tryz.underlying38 inf3.sz rfl rfl rfl (by omega)) rfl <| .x (kZ Tryz.underlying3 rfl rfl rfl rfl (by omega)) rfl <| .x (lZ rfl rfl ⟨by omega, by omega⟩) rfl <| .s rfl rfl <| .nil <| .seq <| .region <| .m rfl rfl <| .m rfl rfl <| .x (aX rfl rfl ⟨by omega, by omega⟩) rfl <| .y (xZ (us := [_]) (c := .aggI [_]) Tryz.underlying38 inf3 rfl (by decide) (by decide) ⟨rfl, rfl, rfl, trivial⟩ rfl) rfl <| .y (kX Tryz.underlying38 inf3 rfl rfl rfl rfl (by omega) rfl rfl (by omega) rfl (by omega)) rfl <| .s rfl rfl <| .nil <| .region <| .m rfl rfl <| .x (xY rfl rfl ⟨by omega, ⟨by omega, by omega⟩, by omega⟩) rfl <| .s rfl rfl <| .nil <| .region <| .m rfl rfl <| .x (lZ rfl rfl ⟨by omega, by omega⟩) rfl <| .s rfl rfl <| .nil ?_
     exact ⟨⟨k + 1, by omega⟩, by (try dsimp only); omega, StLe.mk [(1000, 1016)] rfl rfl ⟨⟨_, rfl, by rfl, rfl⟩, ⟨_, rfl, by rfl, rfl⟩, ⟨_, rfl, by rfl, rfl⟩, ⟨_, rfl, by (simp only [AV.ren]; congr 1; omega), rfl⟩, ⟨_, rfl, by (simp only [AV.ren]; congr 1), rfl⟩, trivial⟩ ⟨⟨_, _, rfl, rfl, rfl, rfl, id, rfl⟩, ⟨_, _, rfl, rfl, rfl, rfl, id, rfl⟩, ⟨_, _, rfl, rfl, by (simp only [AV.ren]; rw [xX]; congr 3; omega), rfl, id, rfl⟩, trivial⟩⟩
    ·simp only [decide_eq_false_iff_not] at hc38
     refine .skip <| .seq <| .region <| .m rfl rfl <| .m rfl rfl <| .x (aX rfl rfl ⟨by omega, by omega⟩) rfl <| .y (xZ (us := [_]) (c := .aggI [_]) Tryz.underlying38 inf3 rfl (by decide) (by decide) ⟨rfl, rfl, rfl, trivial⟩ rfl) rfl <| .y (kX Tryz.underlying38 inf3 rfl rfl rfl rfl (by omega) rfl rfl (by omega) rfl (by omega)) rfl <| .s rfl rfl <| .nil <| .region <| .m rfl rfl <| .x (xY rfl rfl ⟨by omega, ⟨by omega, by omega⟩, by omega⟩) rfl <| .s rfl rfl <| .nil <| .region <| .m rfl rfl <| .x (lZ rfl rfl ⟨by omega, by omega⟩) rfl <| .s rfl rfl <| .nil ?_
     exact ⟨⟨k + 1, by omega⟩, by (try dsimp only); omega, StLe.mk [(1000, 1016)] rfl rfl ⟨⟨_, rfl, by rfl, rfl⟩, ⟨_, rfl, by rfl, rfl⟩, ⟨_, rfl, by rfl, rfl⟩, ⟨_, rfl, by (simp only [AV.ren]; congr 1; omega), rfl⟩, ⟨_, rfl, by (simp only [AV.ren]; congr 1), rfl⟩, trivial⟩ ⟨⟨_, _, rfl, rfl, rfl, rfl, id, rfl⟩, ⟨_, _, rfl, rfl, rfl, rfl, id, rfl⟩, ⟨_, _, rfl, rfl, by (simp only [AV.ren]; rw [xX]; congr 3; omega), rfl, id, rfl⟩, trivial⟩⟩
   ·simp only [decide_eq_false_iff_not] at hc28
    refine .skip <| .seq <| .seq <| .region <| .m rfl rfl <| .m rfl rfl <| .x (vZ Tryz.underlying38 rfl) rfl <| .x (iZ rfl rfl rfl) rfl <| .nil <| .cond rfl (fun hc38 => ?_) (fun hc38 => ?_)
    ·simp only [decide_eq_true_eq] at hc38
     refine .region <| .m rfl rfl <| .m rfl rfl <| .m rfl rfl <| .x (fY Tryz.underlying38 inf3.sz rfl rfl rfl (by omega)) rfl <| .x (kZ Tryz.underlying3 rfl rfl rfl rfl (by simp only [AV.len]; omega)) rfl <| .x (lZ rfl rfl ⟨by omega, by omega⟩) rfl <| .s rfl rfl <| .nil <| .seq <| .region <| .m rfl rfl <| .m rfl rfl <| .x (aX rfl rfl ⟨by omega, by omega⟩) rfl <| .y (xZ (us := [_]) (c := .aggI [_]) Tryz.underlying38 inf3 rfl (by decide) (by decide) ⟨rfl, rfl, rfl, trivial⟩ rfl) rfl <| .y (kX Tryz.underlying38 inf3 rfl rfl rfl rfl (by simp only [AV.len, pY]; done) rfl rfl (by simp [AV.len]; done) rfl (by omega)) rfl <| .s rfl rfl <| .nil <| .region <| .m rfl rfl <| .x (xY rfl rfl ⟨by omega, ⟨by omega, by omega⟩, by omega⟩) rfl <| .s rfl rfl <| .nil <| .region <| .m rfl rfl <| .x (lZ rfl rfl ⟨by omega, by omega⟩) rfl <| .s rfl rfl <| .nil ?_
     exact ⟨⟨k + 1, by omega⟩, by (try dsimp only); omega, StLe.mk [(1000, 1016)] rfl rfl ⟨⟨_, rfl, by rfl, rfl⟩, ⟨_, rfl, by rfl, rfl⟩, ⟨_, rfl, by rfl, rfl⟩, ⟨_, rfl, by (simp only [AV.ren]; congr 1; omega), rfl⟩, ⟨_, rfl, by (simp only [AV.ren]; congr 1), rfl⟩, trivial⟩ ⟨⟨_, _, rfl, rfl, rfl, rfl, id, rfl⟩, ⟨_, _, rfl, rfl, rfl, rfl, id, rfl⟩, ⟨_, _, rfl, rfl, by (simp only [AV.ren]; rw [xX]; congr 3; omega), rfl, id, rfl⟩, trivial⟩⟩
    ·simp only [decide_eq_false_iff_not] at hc38
     refine .skip <| .seq <| .region <| .m rfl rfl <| .m rfl rfl <| .x (aX rfl rfl ⟨by omega, by omega⟩) rfl <| .y (xZ (us := [_]) (c := .aggI [_]) Tryz.underlying38 inf3 rfl (by decide) (by decide) ⟨rfl, rfl, rfl, trivial⟩ rfl) rfl <| .y (kX Tryz.underlying38 inf3 rfl rfl rfl rfl (by omega) rfl rfl (by omega) rfl (by omega)) rfl <| .s rfl rfl <| .nil <| .region <| .m rfl rfl <| .x (xY rfl rfl ⟨by omega, ⟨by omega, by omega⟩, by omega⟩) rfl <| .s rfl rfl <| .nil <| .region <| .m rfl rfl <| .x (lZ rfl rfl ⟨by omega, by omega⟩) rfl <| .s rfl rfl <| .nil ?_
     exact ⟨⟨k + 1, by omega⟩, by (try dsimp only); omega, StLe.mk [(1000, 1016)] rfl rfl ⟨⟨_, rfl, by rfl, rfl⟩, ⟨_, rfl, by rfl, rfl⟩, ⟨_, rfl, by rfl, rfl⟩, ⟨_, rfl, by (simp only [AV.ren]; congr 1; omega), rfl⟩, ⟨_, rfl, by (simp only [AV.ren]; congr 1), rfl⟩, trivial⟩ ⟨⟨_, _, rfl, rfl, rfl, rfl, id, rfl⟩, ⟨_, _, rfl, rfl, rfl, rfl, id, rfl⟩, ⟨_, _, rfl, rfl, by (simp only [AV.ren]; rw [xX]; congr 3; omega), rfl, id, rfl⟩, trivial⟩⟩
  ·simp only [decide_eq_false_iff_not] at hg19
   refine .q (fZ rfl) ⟨_, rfl, rfl⟩ rfl <| .q (iZ rfl rfl rfl) ⟨_, rfl, rfl⟩ rfl <| .x (nY rfl rfl rfl) rfl <| .nil <| .cond rfl (fun hc22 => ?_) (fun hc22 => ?_)
   ·simp only [decide_eq_true_eq] at hc22
    refine .skip <| .seq <| .block <| .seq <| .seq <| .region <| .m rfl rfl <| .m rfl rfl <| .x (vZ Tryz.underlying38 rfl) rfl <| .x (iZ rfl rfl rfl) rfl <| .nil <| .cond rfl (fun hc28 => ?_) (fun hc28 => ?_)
    ·simp only [decide_eq_true_eq] at hc28
     refine .region <| .m rfl rfl <| .m rfl rfl <| .m rfl rfl <| .x (fY Tryz.underlying38 inf3.sz rfl rfl rfl (by omega)) rfl <| .x (kZ Tryz.underlying3 rfl rfl rfl rfl (by omega)) rfl <| .x (lZ rfl rfl ⟨by omega, by omega⟩) rfl <| .s rfl rfl <| .nil <| .seq <| .seq <| .region <| .m rfl rfl <| .m rfl rfl <| .x (vZ Tryz.underlying38 rfl) rfl <| .x (iZ rfl rfl rfl) rfl <| .nil <| .cond rfl (fun hc38 => ?_) (fun hc38 => ?_)
     ·simp only [decide_eq_true_eq] at hc38
      refine .region <| .m rfl rfl <| .m rfl rfl <| .m rfl rfl <| .x (fY Tryz.underlying38 inf3.sz rfl rfl rfl (by omega)) rfl <| .x (kZ Tryz.underlying3 rfl rfl rfl rfl (by omega)) rfl <| .x (lZ rfl rfl ⟨by omega, by omega⟩) rfl <| .s rfl rfl <| .nil <| .seq <| .region <| .m rfl rfl <| .m rfl rfl <| .x (aX rfl rfl ⟨by omega, by omega⟩) rfl <| .y (xZ (us := [_]) (c := .aggI [_]) Tryz.underlying38 inf3 rfl (by decide) (by decide) ⟨rfl, rfl, rfl, trivial⟩ rfl) rfl <| .y (kX Tryz.underlying38 inf3 rfl rfl rfl rfl (by omega) rfl rfl (by omega) rfl (by omega)) rfl <| .s rfl rfl <| .nil <| .region <| .m rfl rfl <| .x (xY rfl rfl ⟨by omega, ⟨by omega, by omega⟩, by omega⟩) rfl <| .s rfl rfl <| .nil <| .region <| .m rfl rfl <| .x (lZ rfl rfl ⟨by omega, by omega⟩) rfl <| .s rfl rfl <| .nil ?_
      exact ⟨⟨k + 1, by omega⟩, by (try dsimp only); omega, StLe.mk [(1000, 1016)] rfl rfl ⟨⟨_, rfl, by rfl, rfl⟩, ⟨_, rfl, by rfl, rfl⟩, ⟨_, rfl, by rfl, rfl⟩, ⟨_, rfl, by (simp only [AV.ren]; congr 1; omega), rfl⟩, ⟨_, rfl, by (simp only [AV.ren]; congr 1), rfl⟩, trivial⟩ ⟨⟨_, _, rfl, rfl, rfl, rfl, id, rfl⟩, ⟨_, _, rfl, rfl, rfl, rfl, id, rfl⟩, ⟨_, _, rfl, rfl, by (simp only [AV.ren]; rw [xX]; congr 3; omega), rfl, id, rfl⟩, trivial⟩⟩
     ·simp only [decide_eq_false_iff_not] at hc38
      refine .skip <| .seq <| .region <| .m rfl rfl <| .m rfl rfl <| .x (aX rfl rfl ⟨by omega, by omega⟩) rfl <| .y (xZ (us := [_]) (c := .aggI [_]) Tryz.underlying38 inf3 rfl (by decide) (by decide) ⟨rfl, rfl, rfl, trivial⟩ rfl) rfl <| .y (kX Tryz.underlying38 inf3 rfl rfl rfl rfl (by omega) rfl rfl (by omega) rfl (by omega)) rfl <| .s rfl rfl <| .nil <| .region <| .m rfl rfl <| .x (xY rfl rfl ⟨by omega, ⟨by omega, by omega⟩, by omega⟩) rfl <| .s rfl rfl <| .nil <| .region <| .m rfl rfl <| .x (lZ rfl rfl ⟨by omega, by omega⟩) rfl <| .s rfl rfl <| .nil ?_
      exact ⟨⟨k + 1, by omega⟩, by (try dsimp only); omega, StLe.mk [(1000, 1016)] rfl rfl ⟨⟨_, rfl, by rfl, rfl⟩, ⟨_, rfl, by rfl, rfl⟩, ⟨_, rfl, by rfl, rfl⟩, ⟨_, rfl, by (simp only [AV.ren]; congr 1; omega), rfl⟩, ⟨_, rfl, by (simp only [AV.ren]; congr 1), rfl⟩, trivial⟩ ⟨⟨_, _, rfl, rfl, rfl, rfl, id, rfl⟩, ⟨_, _, rfl, rfl, rfl, rfl, id, rfl⟩, ⟨_, _, rfl, rfl, by (simp only [AV.ren]; rw [xX]; congr 3; omega), rfl, id, rfl⟩, trivial⟩⟩
    ·simp only [decide_eq_false_iff_not] at hc28
     refine .skip <| .seq <| .seq <| .region <| .m rfl rfl <| .m rfl rfl <| .x (vZ Tryz.underlying38 rfl) rfl <| .x (iZ rfl rfl rfl) rfl <| .nil <| .cond rfl (fun hc38 => ?_) (fun hc38 => ?_)
     ·simp only [decide_eq_true_eq] at hc38
      refine .region <| .m rfl rfl <| .m rfl rfl <| .m rfl rfl <| .x (fY Tryz.underlying38 inf3.sz rfl rfl rfl (by omega)) rfl <| .x (kZ Tryz.underlying3 rfl rfl rfl rfl (by omega)) rfl <| .x (lZ rfl rfl ⟨by omega, by omega⟩) rfl <| .s rfl rfl <| .nil <| .seq <| .region <| .m rfl rfl <| .m rfl rfl <| .x (aX rfl rfl ⟨by omega, by omega⟩) rfl <| .y (xZ (us := [_]) (c := .aggI [_]) Tryz.underlying38 inf3 rfl (by decide) (by decide) ⟨rfl, rfl, rfl, trivial⟩ rfl) rfl <| .y (kX Tryz.underlying38 inf3 rfl rfl rfl rfl (by omega) rfl rfl (by omega) rfl (by omega)) rfl <| .s rfl rfl <| .nil <| .region <| .m rfl rfl <| .x (xY rfl rfl ⟨by omega, ⟨by omega, by omega⟩, by omega⟩) rfl <| .s rfl rfl <| .nil <| .region <| .m rfl rfl <| .x (lZ rfl rfl ⟨by omega, by omega⟩) rfl <| .s rfl rfl <| .nil ?_
      exact ⟨⟨k + 1, by omega⟩, by (try dsimp only); omega, StLe.mk [(1000, 1016)] rfl rfl ⟨⟨_, rfl, by rfl, rfl⟩, ⟨_, rfl, by rfl, rfl⟩, ⟨_, rfl, by rfl, rfl⟩, ⟨_, rfl, by (simp only [AV.ren]; congr 1; omega), rfl⟩, ⟨_, rfl, by (simp only [AV.ren]; congr 1), rfl⟩, trivial⟩ ⟨⟨_, _, rfl, rfl, rfl, rfl, id, rfl⟩, ⟨_, _, rfl, rfl, rfl, rfl, id, rfl⟩, ⟨_, _, rfl, rfl, by (simp only [AV.ren]; rw [xX]; congr 3; omega), rfl, id, rfl⟩, trivial⟩⟩
     ·simp only [decide_eq_false_iff_not] at hc38
      refine .skip <| .seq <| .region <| .m rfl rfl <| .m rfl rfl <| .x (aX rfl rfl ⟨by omega, by omega⟩) rfl <| .y (xZ (us := [_]) (c := .aggI [_]) Tryz.underlying38 inf3 rfl (by decide) (by decide) ⟨rfl, rfl, rfl, trivial⟩ rfl) rfl <| .y (kX Tryz.underlying38 inf3 rfl rfl rfl rfl (by simp only [AV.len, pY]; done) rfl rfl (by simp [AV.len]; done) rfl (by omega)) rfl <| .s rfl rfl <| .nil <| .region <| .m rfl rfl <| .x (xY rfl rfl ⟨by omega, ⟨by omega, by omega⟩, by omega⟩) rfl <| .s rfl rfl <| .nil <| .region <| .m rfl rfl <| .x (lZ rfl rfl ⟨by omega, by omega⟩) rfl <| .s rfl rfl <| .nil ?_
      exact ⟨⟨k + 1, by omega⟩, by (try dsimp only); omega, StLe.mk [(1000, 1016)] rfl rfl ⟨⟨_, rfl, by rfl, rfl⟩, ⟨_, rfl, by rfl, rfl⟩, ⟨_, rfl, by rfl, rfl⟩, ⟨_, rfl, by (simp only [AV.ren]; congr 1; omega), rfl⟩, ⟨_, rfl, by (simp only [AV.ren]; congr 1), rfl⟩, trivial⟩ ⟨⟨_, _, rfl, rfl, rfl, rfl, id, rfl⟩, ⟨_, _, rfl, rfl, rfl, rfl, id, rfl⟩, ⟨_, _, rfl, rfl, by (simp only [AV.ren]; rw [xX]; congr 3; omega), rfl, id, rfl⟩, trivial⟩⟩
   ·simp only [decide_eq_false_iff_not] at hc22
    refine .exit <| .seq <| .region <| .m rfl rfl <| .x (aZ (U := []) [(500, 1000)] [] (trim_dn k (a + b) (add_end (by omega) (by omega) (by omega)) (by omega)) Tryz.func49 (by kernel_rfl) rfl rfl rfl (⟨⟨_, rfl, rfl, rfl⟩, trivial⟩) (⟨⟨_, _, rfl, rfl, rfl, rfl, (fun h => by cases h), rfl⟩, trivial⟩) (trivial) (⟨(fun h => by cases h), trivial⟩) rfl) rfl <| .s rfl rfl <| .nil <| Ev.pre (H2 := [(1000, some ⟨.aggI (dg (a + b)), 3, true⟩)]) ⟨⟨.aggI (dn k (a + b)), dl (a + b), rfl, pre_dn k (a + b) (uX (add_end (by omega) (by omega) (by omega)))⟩, trivial⟩ <| .ret ?_
    exact iY rfl (.inl rfl) rfl rfl ⟨rfl, trivial⟩
end Go.Proofs.YtcnjekoidgefpaaGreatDoor
namespace Go.Proofs.YtcnjekoidgefpaaGreatDoor
open Go.RowKit
theorem ofI8_mod (k : Nat) : ofI8 ((k : Int) % 256) = UInt8.ofNat (k % 256) := by
  unfold ofI8; congr 1; omega
theorem pow_in {m : Nat} (h : m < 16) : InI (1 * 2 ^ m) := by
  have hm : m = 0 ∨ m = 1 ∨ m = 2 ∨ m = 3 ∨ m = 4 ∨ m = 5 ∨ m = 6 ∨ m = 7 ∨ m = 8 ∨ m = 9 ∨ m = 10 ∨ m = 11 ∨ m = 12 ∨ m = 13 ∨ m = 14 ∨ m = 15 := by omega
  unfold InI
  rcases hm with rfl | rfl | rfl | rfl | rfl | rfl | rfl | rfl | rfl | rfl | rfl | rfl | rfl | rfl | rfl | rfl <;> decide
set_option maxRecDepth 100000 in
theorem power_ev (n : Nat) (hn : n ≤ 1000000) : mZ Tryz.prog 112 [.i64 (n : Int)] [] (.sl 1000 0 (dl (2 ^ n)) 1) [(1000, some ⟨.aggI (dg (2 ^ n)), 3, true⟩)] := by
 refine eZ (nt := 16) Tryz.func112 rfl rfl (Nat.le_of_ble_eq_true rfl) <| .seq <| .region <| .s rfl rfl <| .nil <| .seq <| .region <| .m rfl rfl <| .x (xY rfl rfl ⟨by omega, ⟨by omega, by omega⟩, by omega⟩) rfl <| .x (lZ rfl rfl ⟨by omega, by omega⟩) rfl <| .y (ap_make (n := n / 16 + 1) (c := .aggI (List.replicate (n / 16 + 1) 0)) Tryz.underlying38 inf3 rfl rfl (by omega) (by omega) (by omega) (rel_zero3) rfl (by simp [AV.list, AV.parts])) rfl <| .s rfl rfl <| .nil <| .seq <| .region <| .m rfl rfl <| .m rfl rfl <| .x (xY rfl rfl ⟨by omega, ⟨by omega, by omega⟩, by omega⟩) rfl <| .m rfl rfl <| .x (aX rfl rfl ⟨by omega, by omega⟩) rfl <| .x (op_shlI (n := n % 16) rfl rfl (by simp only [wW]; rw [show (n : Int) % 16 = ((n % 16 : Nat) : Int) by omega]) ⟨by omega, pow_in (by omega)⟩) rfl <| .x (fY Tryz.underlying38 inf3.sz rfl rfl (i := n / 16) (by omega) (by omega)) rfl <| .w (qY inf3.sz rfl rfl rfl rfl rfl (by simp only [AV.len, List.length_replicate]; omega)) trivial rfl <| .asH (.aggI (dg (2 ^ n))) (congrArg AV.aggI (dg_pow n)) <| .nil <| .seq <| .region <| .m rfl rfl <| .s rfl rfl <| .nil <| .ret ?_
 exact iY rfl (.inl rfl) rfl (by rw [dl_pow]) ⟨rfl, trivial⟩
set_option maxHeartbeats 1000000 in
set_option maxRecDepth 100000 in
theorem bytes_ev (v n : Nat) (hn : n ≤ 1000000) : mZ Tryz.prog 68 [.sl 500 0 (dl v) 1, .i64 (n : Int)] [(500, some ⟨.aggI (dg v), 3, false⟩)] (.str (bsN v n)) [] := by
 refine eZ (nt := 37) Tryz.func68 rfl rfl (Nat.le_of_ble_eq_true rfl) <| .seq <| .region <| .s rfl rfl <| .nil <| .seq <| .region <| .y (kW (z := 1) (c := .aggB []) Tryz.underlying25 inf5 rfl) rfl <| .s rfl rfl <| .nil <| .seq <| .seq <| .region <| .s rfl rfl <| .nil <| .block <| Ev.loop (ι := { k : Nat // k ≤ n }) (fun q => ⟨[(0, .sl 500 0 (dl v) 1), (1, .i64 (n : Int)), (5, .sl 1000 0 q.1 1), (6, .i64 ((q.1 : Nat) : Int))], [(500, some ⟨.aggI (dg v), 3, false⟩), (1000, some ⟨.aggB (bsN v q.1), 5, true⟩)], 1008⟩) (fun q => n - q.1) ⟨0, Nat.zero_le _⟩ (StLe.mk [(1000, 1000)] rfl rfl ⟨⟨_, rfl, by first | rfl | (simp only [AV.ren]; congr 1; omega), rfl⟩, ⟨_, rfl, by first | rfl | (simp only [AV.ren]; congr 1; omega), rfl⟩, ⟨_, rfl, by first | rfl | (simp only [AV.ren]; congr 1; omega), rfl⟩, ⟨_, rfl, by first | rfl | (simp only [AV.ren]; congr 1; omega), rfl⟩, trivial⟩ ⟨⟨_, _, rfl, rfl, rfl, rfl, id, rfl⟩, ⟨_, _, rfl, rfl, rfl, rfl, id, rfl⟩, trivial⟩) ?_
 rintro ⟨k, hk⟩
 try dsimp only
 have hby := dk_byte v k
 have hl := mY v k
 have hg : k / 2 < dl v → (dg v).getD (k / 2) 0 = (dk v (k / 2) : Int) := fun h => iW _ _ _ h
 have hz : dl v ≤ k / 2 → dk v (k / 2) = 0 := dk_high
 have d1 := rU v (k / 2)
 have l1 := mX v
 refine .seq <| .seq <| .region <| .m rfl rfl <| .m rfl rfl <| .x (iZ rfl rfl rfl) rfl <| .nil <| .cond rfl (fun hc11 => ?_) (fun hc11 => ?_)
 ·simp only [decide_eq_true_eq] at hc11
  refine .skip <| .seq <| .block <| .seq <| .region <| .s rfl rfl <| .nil <| .seq <| .seq <| .region <| .m rfl rfl <| .x (xY rfl rfl ⟨by omega, ⟨by omega, by omega⟩, by omega⟩) rfl <| .m rfl rfl <| .x (vZ Tryz.underlying38 rfl) rfl <| .x (iZ rfl rfl rfl) rfl <| .nil <| .cond rfl (fun hc18 => ?_) (fun hc18 => ?_)
  ·simp only [decide_eq_true_eq] at hc18
   refine .region <| .m rfl rfl <| .m rfl rfl <| .x (xY rfl rfl ⟨by omega, ⟨by omega, by omega⟩, by omega⟩) rfl <| .x (fY Tryz.underlying38 inf3.sz rfl rfl (i := k / 2) (by omega) (by omega)) rfl <| .x (kZ Tryz.underlying3 rfl rfl rfl rfl (by simp only [AV.len]; omega)) rfl <| .as (.i64 (dk v (k / 2) : Int)) (congrArg AV.i64 (hg (by omega))) <| .s rfl rfl <| .nil <| .seq <| .seq <| .region <| .m rfl rfl <| .x (aX rfl rfl ⟨by omega, by omega⟩) rfl <| .x (iZ rfl rfl rfl) rfl <| .nil <| .cond rfl (fun hc26 => ?_) (fun hc26 => ?_)
   ·simp only [beq_iff_eq] at hc26
    refine .region <| .m rfl rfl <| .x (xY rfl rfl ⟨by omega, ⟨by omega, by omega⟩, by omega⟩) rfl <| .s rfl rfl <| .nil <| .region <| .m rfl rfl <| .m rfl rfl <| .x (aX rfl rfl ⟨by omega, by omega⟩) rfl <| .x (aW Tryz.underlying3 Tryz.underlying5 rfl rfl) rfl <| .y (xZ (us := [_]) (c := .aggB [_]) Tryz.underlying25 inf5 rfl (by decide) (by decide) ⟨rfl, rfl, rfl, trivial⟩ rfl) rfl <| .y (kX Tryz.underlying25 inf5 rfl rfl rfl rfl (by simp only [AV.len, mY]; done) rfl rfl (by simp [AV.len]; done) rfl (by omega)) rfl <| .s rfl rfl <| .nil <| .region <| .m rfl rfl <| .x (lZ rfl rfl ⟨by omega, by omega⟩) rfl <| .s rfl rfl <| .nil ?_
    exact ⟨⟨k + 1, by omega⟩, by (try dsimp only); omega, StLe.mk [(1000, 1016)] rfl rfl ⟨⟨_, rfl, by rfl, rfl⟩, ⟨_, rfl, by rfl, rfl⟩, ⟨_, rfl, by rfl, rfl⟩, ⟨_, rfl, by rfl, rfl⟩, trivial⟩ ⟨⟨_, _, rfl, rfl, rfl, rfl, id, rfl⟩, ⟨_, _, rfl, rfl, by (simp only [AV.ren, bsN]; rw [← hby]; first | (rw [if_pos (by omega)]; rw [show ((dk v (k / 2) : Nat) : Int) / 256 = ((dk v (k / 2) / 256 : Nat) : Int) by simp, ofI8_mod]; done) | (rw [if_neg (by omega), ofI8_mod]; done) | (rw [hz (by omega)]; split <;> rfl)), rfl, id, rfl⟩, trivial⟩⟩
   ·simp only [ne_eq, beq_eq_false_iff_ne] at hc26
    refine .skip <| .region <| .m rfl rfl <| .m rfl rfl <| .x (aX rfl rfl ⟨by omega, by omega⟩) rfl <| .x (aW Tryz.underlying3 Tryz.underlying5 rfl rfl) rfl <| .y (xZ (us := [_]) (c := .aggB [_]) Tryz.underlying25 inf5 rfl (by decide) (by decide) ⟨rfl, rfl, rfl, trivial⟩ rfl) rfl <| .y (kX Tryz.underlying25 inf5 rfl rfl rfl rfl (by simp only [AV.len, mY]; done) rfl rfl (by simp [AV.len]; done) rfl (by omega)) rfl <| .s rfl rfl <| .nil <| .region <| .m rfl rfl <| .x (lZ rfl rfl ⟨by omega, by omega⟩) rfl <| .s rfl rfl <| .nil ?_
    exact ⟨⟨k + 1, by omega⟩, by (try dsimp only); omega, StLe.mk [(1000, 1016)] rfl rfl ⟨⟨_, rfl, by rfl, rfl⟩, ⟨_, rfl, by rfl, rfl⟩, ⟨_, rfl, by rfl, rfl⟩, ⟨_, rfl, by rfl, rfl⟩, trivial⟩ ⟨⟨_, _, rfl, rfl, rfl, rfl, id, rfl⟩, ⟨_, _, rfl, rfl, by (simp only [AV.ren, bsN]; rw [← hby]; first | (rw [if_pos (by omega)]; rw [show ((dk v (k / 2) : Nat) : Int) / 256 = ((dk v (k / 2) / 256 : Nat) : Int) by simp, ofI8_mod]; done) | (rw [if_neg (by omega), ofI8_mod]; done) | (rw [hz (by omega)]; split <;> rfl)), rfl, id, rfl⟩, trivial⟩⟩
  ·simp only [decide_eq_false_iff_not] at hc18
   refine .skip <| .seq <| .seq <| .region <| .m rfl rfl <| .x (aX rfl rfl ⟨by omega, by omega⟩) rfl <| .x (iZ rfl rfl rfl) rfl <| .nil <| .cond rfl (fun hc26 => ?_) (fun hc26 => ?_)
   ·simp only [beq_iff_eq] at hc26
    refine .region <| .m rfl rfl <| .x (xY rfl rfl ⟨by omega, ⟨by omega, by omega⟩, by omega⟩) rfl <| .s rfl rfl <| .nil <| .region <| .m rfl rfl <| .m rfl rfl <| .x (aX rfl rfl ⟨by omega, by omega⟩) rfl <| .x (aW Tryz.underlying3 Tryz.underlying5 rfl rfl) rfl <| .y (xZ (us := [_]) (c := .aggB [_]) Tryz.underlying25 inf5 rfl (by decide) (by decide) ⟨rfl, rfl, rfl, trivial⟩ rfl) rfl <| .y (kX Tryz.underlying25 inf5 rfl rfl rfl rfl (by simp only [AV.len, mY]; done) rfl rfl (by simp [AV.len]; done) rfl (by omega)) rfl <| .s rfl rfl <| .nil <| .region <| .m rfl rfl <| .x (lZ rfl rfl ⟨by omega, by omega⟩) rfl <| .s rfl rfl <| .nil ?_
    exact ⟨⟨k + 1, by omega⟩, by (try dsimp only); omega, StLe.mk [(1000, 1016)] rfl rfl ⟨⟨_, rfl, by rfl, rfl⟩, ⟨_, rfl, by rfl, rfl⟩, ⟨_, rfl, by rfl, rfl⟩, ⟨_, rfl, by rfl, rfl⟩, trivial⟩ ⟨⟨_, _, rfl, rfl, rfl, rfl, id, rfl⟩, ⟨_, _, rfl, rfl, by (simp only [AV.ren, bsN]; rw [← hby]; first | (rw [if_pos (by omega)]; rw [show ((dk v (k / 2) : Nat) : Int) / 256 = ((dk v (k / 2) / 256 : Nat) : Int) by simp, ofI8_mod]; done) | (rw [if_neg (by omega), ofI8_mod]; done) | (rw [hz (by omega)]; split <;> rfl)), rfl, id, rfl⟩, trivial⟩⟩
   ·simp only [ne_eq, beq_eq_false_iff_ne] at hc26
    refine .skip <| .region <| .m rfl rfl <| .m rfl rfl <| .x (aX rfl rfl ⟨by omega, by omega⟩) rfl <| .x (aW Tryz.underlying3 Tryz.underlying5 rfl rfl) rfl <| .y (xZ (us := [_]) (c := .aggB [_]) Tryz.underlying25 inf5 rfl (by decide) (by decide) ⟨rfl, rfl, rfl, trivial⟩ rfl) rfl <| .y (kX Tryz.underlying25 inf5 rfl rfl rfl rfl (by simp only [AV.len, mY]; done) rfl rfl (by simp [AV.len]; done) rfl (by omega)) rfl <| .s rfl rfl <| .nil <| .region <| .m rfl rfl <| .x (lZ rfl rfl ⟨by omega, by omega⟩) rfl <| .s rfl rfl <| .nil ?_
    exact ⟨⟨k + 1, by omega⟩, by (try dsimp only); omega, StLe.mk [(1000, 1016)] rfl rfl ⟨⟨_, rfl, by rfl, rfl⟩, ⟨_, rfl, by rfl, rfl⟩, ⟨_, rfl, by rfl, rfl⟩, ⟨_, rfl, by rfl, rfl⟩, trivial⟩ ⟨⟨_, _, rfl, rfl, rfl, rfl, id, rfl⟩, ⟨_, _, rfl, rfl, by (simp only [AV.ren, bsN]; rw [← hby]; first | (rw [if_pos (by omega)]; rw [show ((dk v (k / 2) : Nat) : Int) / 256 = ((dk v (k / 2) / 256 : Nat) : Int) by simp, ofI8_mod]; done) | (rw [if_neg (by omega), ofI8_mod]; done) | (rw [hz (by omega)]; split <;> rfl)), rfl, id, rfl⟩, trivial⟩⟩
 ·simp only [decide_eq_false_iff_not] at hc11
  refine .exit <| .seq <| .region <| .m rfl rfl <| .x (gY Tryz.underlying25 Tryz.underlying5 Tryz.underlying9 rfl rfl rfl (by rw [mY]; omega)) rfl <| .s rfl rfl <| .nil <| .ret ?_
  have e : k = n := by omega
  exact iY rfl (.inl rfl) rfl (by rw [e, List.drop_zero, List.take_of_length_le (by rw [mY]; omega)]) trivial
set_option maxHeartbeats 1000000 in
set_option maxRecDepth 100000 in
theorem sub_ev (a b : Nat) (h : b ≤ a) (ha : dl a ≤ 1000) (_hb : dl b ≤ 1000) : mZ Tryz.prog 84 [.sl 500 0 (dl a) 1, .sl 501 0 (dl b) 1] [(500, some ⟨.aggI (dg a), 3, false⟩), (501, some ⟨.aggI (dg b), 3, false⟩)] (.sl 1000 0 (dl (a - b)) 1) [(1000, some ⟨.aggI (dg (a - b)), 3, true⟩)] := by
 refine eZ (nt := 42) Tryz.func84 rfl rfl (Nat.le_of_ble_eq_true rfl) <| .seq <| .region <| .s rfl rfl <| .nil <| .seq <| .region <| .y (kW (z := 1) (c := .aggI []) Tryz.underlying38 inf3 rfl) rfl <| .s rfl rfl <| .nil <| .seq <| .region <| .s rfl rfl <| .nil <| .seq <| .seq <| .region <| .m rfl rfl <| .x (vZ Tryz.underlying38 rfl) rfl <| .m rfl rfl <| .nil <| .block <| Ev.loop (ι := { k : Nat // k ≤ dl a }) (fun q => ⟨[(0, .sl 500 0 (dl a) 1), (1, .sl 501 0 (dl b) 1), (5, .sl 1000 0 q.1 1), (6, .i64 (bk a b q.1 : Int)), (11, .i64 ((dl a : Nat) : Int)), (12, .i64 ((q.1 : Nat) : Int))], [(500, some ⟨.aggI (dg a), 3, false⟩), (501, some ⟨.aggI (dg b), 3, false⟩), (1000, some ⟨.aggI (dn q.1 (a - b)), 3, true⟩)], 1008⟩) (fun q => dl a - q.1) ⟨0, Nat.zero_le _⟩ (StLe.mk [(1000, 1000)] rfl rfl ⟨⟨_, rfl, by rfl, rfl⟩, ⟨_, rfl, by rfl, rfl⟩, ⟨_, rfl, by rfl, rfl⟩, ⟨_, rfl, by (simp only [AV.ren]; rw [bk_zero]; rfl), rfl⟩, ⟨_, rfl, by rfl, rfl⟩, ⟨_, rfl, by rfl, rfl⟩, trivial⟩ ⟨⟨_, _, rfl, rfl, rfl, rfl, id, rfl⟩, ⟨_, _, rfl, rfl, rfl, rfl, id, rfl⟩, ⟨_, _, rfl, rfl, rfl, rfl, id, rfl⟩, trivial⟩) ?_
 rintro ⟨k, hk⟩
 try dsimp only
 have hS := sub_step h k
 have hb1 := bk_le a b k
 have hb2 := bk_le a b (k + 1)
 have hA : k < dl a → (dg a).getD k 0 = (dk a k : Int) := fun h => iW _ _ _ h
 have hB : k < dl b → (dg b).getD k 0 = (dk b k : Int) := fun h => iW _ _ _ h
 have hB0 : dl b ≤ k → dk b k = 0 := dk_high
 have hl := pY k (a - b)
 have d1 := rU a k
 have d2 := rU b k
 have d3 := rU (a - b) k
 have l1 := mX a
 have l2 := mX b
 refine .seq <| .region <| .x (iZ rfl rfl rfl) rfl <| .nil <| .seq <| .cond rfl (fun hc13 => ?_) (fun hc13 => ?_)
 ·simp only [decide_eq_true_eq] at hc13
  refine .skip <| .seq <| .block <| .seq <| .region <| .m rfl rfl <| .s rfl rfl <| .nil <| .seq <| .region <| .m rfl rfl <| .m rfl rfl <| .x (fY Tryz.underlying38 inf3.sz rfl rfl rfl (by omega)) rfl <| .x (kZ Tryz.underlying3 rfl rfl rfl rfl (by simp only [AV.len]; omega)) rfl <| .as (.i64 (dk a k : Int)) (congrArg AV.i64 (hA (by omega))) <| .m rfl rfl <| .x (zY rfl rfl ⟨by omega, by omega⟩) rfl <| .s rfl rfl <| .nil <| .seq <| .seq <| .region <| .m rfl rfl <| .m rfl rfl <| .x (vZ Tryz.underlying38 rfl) rfl <| .x (iZ rfl rfl rfl) rfl <| .nil <| .cond rfl (fun hc24 => ?_) (fun hc24 => ?_)
  ·simp only [decide_eq_true_eq] at hc24
   refine .region <| .m rfl rfl <| .m rfl rfl <| .m rfl rfl <| .x (fY Tryz.underlying38 inf3.sz rfl rfl rfl (by omega)) rfl <| .x (kZ Tryz.underlying3 rfl rfl rfl rfl (by simp only [AV.len]; omega)) rfl <| .as (.i64 (dk b k : Int)) (congrArg AV.i64 (hB (by omega))) <| .x (zY rfl rfl ⟨by omega, by omega⟩) rfl <| .s rfl rfl <| .nil <| .seq <| .region <| .s rfl rfl <| .nil <| .seq <| .seq <| .region <| .m rfl rfl <| .x (iZ rfl rfl rfl) rfl <| .nil <| .cond rfl (fun hc32 => ?_) (fun hc32 => ?_)
   ·simp only [decide_eq_true_eq] at hc32
    refine .seq <| .region <| .m rfl rfl <| .x (lZ rfl rfl ⟨by omega, by omega⟩) rfl <| .s rfl rfl <| .nil <| .region <| .s rfl rfl <| .nil <| .region <| .m rfl rfl <| .m rfl rfl <| .y (xZ (us := [_]) (c := .aggI [_]) Tryz.underlying38 inf3 rfl (by decide) (by decide) ⟨rfl, rfl, rfl, trivial⟩ rfl) rfl <| .y (kX Tryz.underlying38 inf3 rfl rfl rfl rfl (by simp only [AV.len, pY]; done) rfl rfl (by simp [AV.len]; done) rfl (by omega)) rfl <| .s rfl rfl <| .nil <| .region <| .x (lZ rfl rfl ⟨by omega, by omega⟩) rfl <| .m rfl rfl <| .nil ?_
    exact ⟨⟨k + 1, by omega⟩, by (try dsimp only); omega, StLe.mk [(1000, 1016)] rfl rfl ⟨⟨_, rfl, by rfl, rfl⟩, ⟨_, rfl, by rfl, rfl⟩, ⟨_, rfl, by rfl, rfl⟩, ⟨_, rfl, by (simp only [AV.ren]; congr 1; omega), rfl⟩, ⟨_, rfl, by rfl, rfl⟩, ⟨_, rfl, by rfl, rfl⟩, trivial⟩ ⟨⟨_, _, rfl, rfl, rfl, rfl, id, rfl⟩, ⟨_, _, rfl, rfl, rfl, rfl, id, rfl⟩, ⟨_, _, rfl, rfl, by (simp only [AV.ren]; rw [xX]; congr 3; omega), rfl, id, rfl⟩, trivial⟩⟩
   ·simp only [decide_eq_false_iff_not] at hc32
    refine .skip <| .region <| .m rfl rfl <| .m rfl rfl <| .y (xZ (us := [_]) (c := .aggI [_]) Tryz.underlying38 inf3 rfl (by decide) (by decide) ⟨rfl, rfl, rfl, trivial⟩ rfl) rfl <| .y (kX Tryz.underlying38 inf3 rfl rfl rfl rfl (by simp only [AV.len, pY]; done) rfl rfl (by simp [AV.len]; done) rfl (by omega)) rfl <| .s rfl rfl <| .nil <| .region <| .x (lZ rfl rfl ⟨by omega, by omega⟩) rfl <| .m rfl rfl <| .nil ?_
    exact ⟨⟨k + 1, by omega⟩, by (try dsimp only); omega, StLe.mk [(1000, 1016)] rfl rfl ⟨⟨_, rfl, by rfl, rfl⟩, ⟨_, rfl, by rfl, rfl⟩, ⟨_, rfl, by rfl, rfl⟩, ⟨_, rfl, by (simp only [AV.ren]; congr 1; omega), rfl⟩, ⟨_, rfl, by rfl, rfl⟩, ⟨_, rfl, by rfl, rfl⟩, trivial⟩ ⟨⟨_, _, rfl, rfl, rfl, rfl, id, rfl⟩, ⟨_, _, rfl, rfl, rfl, rfl, id, rfl⟩, ⟨_, _, rfl, rfl, by (simp only [AV.ren]; rw [xX]; congr 3; omega), rfl, id, rfl⟩, trivial⟩⟩
  ·simp only [decide_eq_false_iff_not] at hc24
   refine .skip <| .seq <| .region <| .s rfl rfl <| .nil <| .seq <| .seq <| .region <| .m rfl rfl <| .x (iZ rfl rfl rfl) rfl <| .nil <| .cond rfl (fun hc32 => ?_) (fun hc32 => ?_)
   ·simp only [decide_eq_true_eq] at hc32
    refine .seq <| .region <| .m rfl rfl <| .x (lZ rfl rfl ⟨by omega, by omega⟩) rfl <| .s rfl rfl <| .nil <| .region <| .s rfl rfl <| .nil <| .region <| .m rfl rfl <| .m rfl rfl <| .y (xZ (us := [_]) (c := .aggI [_]) Tryz.underlying38 inf3 rfl (by decide) (by decide) ⟨rfl, rfl, rfl, trivial⟩ rfl) rfl <| .y (kX Tryz.underlying38 inf3 rfl rfl rfl rfl (by simp only [AV.len, pY]; done) rfl rfl (by simp [AV.len]; done) rfl (by omega)) rfl <| .s rfl rfl <| .nil <| .region <| .x (lZ rfl rfl ⟨by omega, by omega⟩) rfl <| .m rfl rfl <| .nil ?_
    exact ⟨⟨k + 1, by omega⟩, by (try dsimp only); omega, StLe.mk [(1000, 1016)] rfl rfl ⟨⟨_, rfl, by rfl, rfl⟩, ⟨_, rfl, by rfl, rfl⟩, ⟨_, rfl, by rfl, rfl⟩, ⟨_, rfl, by (simp only [AV.ren]; congr 1; omega), rfl⟩, ⟨_, rfl, by rfl, rfl⟩, ⟨_, rfl, by rfl, rfl⟩, trivial⟩ ⟨⟨_, _, rfl, rfl, rfl, rfl, id, rfl⟩, ⟨_, _, rfl, rfl, rfl, rfl, id, rfl⟩, ⟨_, _, rfl, rfl, by (simp only [AV.ren]; rw [xX]; congr 3; omega), rfl, id, rfl⟩, trivial⟩⟩
   ·simp only [decide_eq_false_iff_not] at hc32
    refine .skip <| .region <| .m rfl rfl <| .m rfl rfl <| .y (xZ (us := [_]) (c := .aggI [_]) Tryz.underlying38 inf3 rfl (by decide) (by decide) ⟨rfl, rfl, rfl, trivial⟩ rfl) rfl <| .y (kX Tryz.underlying38 inf3 rfl rfl rfl rfl (by simp only [AV.len, pY]; done) rfl rfl (by simp [AV.len]; done) rfl (by omega)) rfl <| .s rfl rfl <| .nil <| .region <| .x (lZ rfl rfl ⟨by omega, by omega⟩) rfl <| .m rfl rfl <| .nil ?_
    exact ⟨⟨k + 1, by omega⟩, by (try dsimp only); omega, StLe.mk [(1000, 1016)] rfl rfl ⟨⟨_, rfl, by rfl, rfl⟩, ⟨_, rfl, by rfl, rfl⟩, ⟨_, rfl, by rfl, rfl⟩, ⟨_, rfl, by (simp only [AV.ren]; congr 1; omega), rfl⟩, ⟨_, rfl, by rfl, rfl⟩, ⟨_, rfl, by rfl, rfl⟩, trivial⟩ ⟨⟨_, _, rfl, rfl, rfl, rfl, id, rfl⟩, ⟨_, _, rfl, rfl, rfl, rfl, id, rfl⟩, ⟨_, _, rfl, rfl, by (simp only [AV.ren]; rw [xX]; congr 3; omega), rfl, id, rfl⟩, trivial⟩⟩
 ·simp only [decide_eq_false_iff_not] at hc13
  refine .exit <| .seq <| .region <| .m rfl rfl <| .x (aZ (U := []) [(500, 1000)] [] (trim_dn k (a - b) (by rw [show k = dl a by omega]; exact sub_lt) (by omega)) Tryz.func49 (by kernel_rfl) rfl rfl rfl (⟨⟨_, rfl, rfl, rfl⟩, trivial⟩) (⟨⟨_, _, rfl, rfl, rfl, rfl, (fun h => by cases h), rfl⟩, trivial⟩) (trivial) (⟨(fun h => by cases h), trivial⟩) rfl) rfl <| .s rfl rfl <| .nil <| Ev.pre (H2 := [(1000, some ⟨.aggI (dg (a - b)), 3, true⟩)]) ⟨⟨.aggI (dn k (a - b)), dl (a - b), rfl, pre_dn k (a - b) (by rw [show k = dl a by omega]; exact uX sub_lt)⟩, trivial⟩ <| .ret ?_
  exact iY rfl (.inl rfl) rfl rfl ⟨rfl, trivial⟩
end Go.Proofs.YtcnjekoidgefpaaGreatDoor
namespace Go.Proofs.YtcnjekoidgefpaaGreatDoor
open Go.RowKit
theorem shr_cast (x m : Nat) : ((x : Nat) : Int) / 2 ^ m % 65536 = ((x / 2 ^ m % 65536 : Nat) : Int) := by simp
set_option maxHeartbeats 1000000 in
set_option maxRecDepth 100000 in
theorem half_ev (a n : Nat) (ha : dl a ≤ 1000) (hn : n ≤ 1000000) : mZ Tryz.prog 89 [.sl 500 0 (dl a) 1, .i64 (n : Int)] [(500, some ⟨.aggI (dg a), 3, false⟩)] (.sl 1000 0 (dl (a / 2 ^ n)) 1) [(1000, some ⟨.aggI (dg (a / 2 ^ n)), 3, true⟩)] := by
 refine eZ (nt := 52) Tryz.func89 rfl rfl (Nat.le_of_ble_eq_true rfl) <| .seq <| .region <| .s rfl rfl <| .nil <| .seq <| .seq <| .region <| .m rfl rfl <| .x (xY rfl rfl ⟨by omega, ⟨by omega, by omega⟩, by omega⟩) rfl <| .m rfl rfl <| .x (vZ Tryz.underlying38 rfl) rfl <| .x (iZ rfl rfl rfl) rfl <| .nil <| .cond rfl (fun hc12 => ?_) (fun hc12 => ?_)
 ·simp only [decide_eq_true_eq] at hc12
  refine .seq <| .region <| .y (kW (z := 1) (c := .aggI []) Tryz.underlying38 inf3 rfl) rfl <| .s rfl rfl <| .nil ?_
  first
   | refine Ev.pre (H2 := [(1000, some ⟨.aggI (dg (a / 2 ^ n)), 3, true⟩)]) ⟨⟨.aggI (dn k (a / 2 ^ n)), dl (a / 2 ^ n), rfl, pre_dn k (a / 2 ^ n) (uX (by rw [show k = dl a - n / 16 by omega]; exact (half_lt a n).resolve_right (by omega)))⟩, trivial⟩ ?_
   | skip
  refine .ret ?_
  first
   | exact iY rfl (.inl rfl) rfl rfl ⟨rfl, trivial⟩
   | exact iY rfl (.inl rfl) rfl (by rw [half_zero (show dl a ≤ n / 16 by omega), mU]) ⟨(by rw [half_zero (show dl a ≤ n / 16 by omega)]; unfold dg; rw [mU]; rfl), trivial⟩
 ·simp only [decide_eq_false_iff_not] at hc12
  refine .skip <| .seq <| .region <| .m rfl rfl <| .m rfl rfl <| .x (xY rfl rfl ⟨by omega, ⟨by omega, by omega⟩, by omega⟩) rfl <| .x (op_slice_sl Tryz.underlying38 inf3.sz rfl (oY rfl (l := n / 16) (by omega)) rfl (by omega) (by omega)) rfl <| .as (.sl 500 (n / 16) (dl a - n / 16) 1) (by congr 1; omega) <| .s rfl rfl <| .nil <| .seq <| .region <| .y (kW (z := 1) (c := .aggI []) Tryz.underlying38 inf3 rfl) rfl <| .s rfl rfl <| .nil <| .seq <| .seq <| .region <| .m rfl rfl <| .x (vZ Tryz.underlying38 rfl) rfl <| .m rfl rfl <| .nil <| .block <| Ev.loop (ι := { k : Nat // k ≤ dl a - n / 16 ∧ n / 16 < dl a }) (fun q => ⟨[(0, .sl 500 (n / 16) (dl a - n / 16) 1), (1, .i64 (n : Int)), (5, .sl 1000 0 q.1 1), (20, .i64 ((dl a - n / 16 : Nat) : Int)), (21, .i64 ((q.1 : Nat) : Int))], [(500, some ⟨.aggI (dg a), 3, false⟩), (1000, some ⟨.aggI (dn q.1 (a / 2 ^ n)), 3, true⟩)], 1008⟩) (fun q => dl a - n / 16 - q.1) ⟨0, Nat.zero_le _, by omega⟩ (StLe.mk [(1000, 1000)] rfl rfl ⟨⟨_, rfl, by first | rfl | (simp only [AV.ren]; congr 1; omega), rfl⟩, ⟨_, rfl, by first | rfl | (simp only [AV.ren]; congr 1; omega), rfl⟩, ⟨_, rfl, by first | rfl | (simp only [AV.ren]; congr 1; omega), rfl⟩, ⟨_, rfl, by first | rfl | (simp only [AV.ren]; congr 1; omega), rfl⟩, ⟨_, rfl, by first | rfl | (simp only [AV.ren]; congr 1; omega), rfl⟩, trivial⟩ ⟨⟨_, _, rfl, rfl, rfl, rfl, id, rfl⟩, ⟨_, _, rfl, rfl, rfl, rfl, id, rfl⟩, trivial⟩) ?_
  rintro ⟨k, hk, hlt⟩
  try dsimp only
  have hS := half_step a n k
  have hA : k < dl a - n / 16 → (dg a).getD (n / 16 + k) 0 = (dk a (n / 16 + k) : Int) := fun h => iW _ _ _ (by omega)
  have hB : k + 1 < dl a - n / 16 → (dg a).getD (n / 16 + (k + 1)) 0 = (dk a (n / 16 + k + 1) : Int) := fun h => iW _ _ _ (by omega)
  have hz : dl a ≤ n / 16 + k + 1 → dk a (n / 16 + k + 1) = 0 := dk_high
  have hl := pY k (a / 2 ^ n)
  have d1 := rU a (n / 16 + k)
  have d2 := rU a (n / 16 + k + 1)
  have l1 := mX a
  refine .seq <| .region <| .x (iZ rfl rfl rfl) rfl <| .nil <| .seq <| .cond rfl (fun hc22 => ?_) (fun hc22 => ?_)
  ·simp only [decide_eq_true_eq] at hc22
   refine .skip <| .seq <| .block <| .seq <| .region <| .m rfl rfl <| .s rfl rfl <| .nil <| .seq <| .region <| .m rfl rfl <| .m rfl rfl <| .x (ap_idx Tryz.underlying38 inf3.sz rfl rfl rfl (by omega)) rfl <| .x (kZ Tryz.underlying3 rfl rfl rfl rfl (by simp only [AV.len]; omega)) rfl <| .as (.i64 (dk a (n / 16 + k) : Int)) (congrArg AV.i64 (hA (by omega))) <| .s rfl rfl <| .nil <| .seq <| .seq <| .region <| .m rfl rfl <| .x (lZ rfl rfl ⟨by omega, by omega⟩) rfl <| .m rfl rfl <| .x (vZ Tryz.underlying38 rfl) rfl <| .x (iZ rfl rfl rfl) rfl <| .nil <| .cond rfl (fun hc32 => ?_) (fun hc32 => ?_)
   ·simp only [decide_eq_true_eq] at hc32
    refine .region <| .m rfl rfl <| .m rfl rfl <| .m rfl rfl <| .x (lZ rfl rfl ⟨by omega, by omega⟩) rfl <| .x (ap_idx Tryz.underlying38 inf3.sz rfl rfl (i := k + 1) (by omega) (by omega)) rfl <| .x (kZ Tryz.underlying3 rfl rfl rfl rfl (by simp only [AV.len]; omega)) rfl <| .as (.i64 (dk a (n / 16 + k + 1) : Int)) (congrArg AV.i64 (hB (by omega))) <| .x (dX rfl rfl ⟨by omega, by omega⟩) rfl <| .x (lZ rfl rfl ⟨by omega, by omega⟩) rfl <| .as (.i64 ((dk a (n / 16 + k) + 65536 * dk a (n / 16 + k + 1) : Nat) : Int)) (by congr 1; omega) <| .s rfl rfl <| .nil <| .region <| .m rfl rfl <| .m rfl rfl <| .m rfl rfl <| .x (aX rfl rfl ⟨by omega, by omega⟩) rfl <| .x (op_shrI (n := n % 16) rfl rfl (by simp only [wW]; rw [show (n : Int) % 16 = ((n % 16 : Nat) : Int) by omega]) (by omega)) rfl <| .x (aX rfl rfl ⟨Int.ediv_nonneg (by omega) (Int.le_of_lt (Int.pow_pos (by decide))), by omega⟩) rfl ?_
    first
     | refine .as (.i64 (((dk a (n / 16 + k) + 65536 * dk a (n / 16 + k + 1)) / 2 ^ (n % 16) % 65536 : Nat) : Int)) (congrArg AV.i64 (shr_cast _ _)) ?_
     | refine .as (.i64 ((dk a (n / 16 + k) / 2 ^ (n % 16) % 65536 : Nat) : Int)) (congrArg AV.i64 (shr_cast _ _)) ?_
    refine .y (xZ (us := [_]) (c := .aggI [_]) Tryz.underlying38 inf3 rfl (by decide) (by decide) ⟨rfl, rfl, rfl, trivial⟩ rfl) rfl <| .y (kX Tryz.underlying38 inf3 rfl rfl rfl rfl (by simp only [AV.len, pY]; done) rfl rfl (by simp [AV.len]; done) rfl (by omega)) rfl <| .s rfl rfl <| .nil <| .region <| .x (lZ rfl rfl ⟨by omega, by omega⟩) rfl <| .m rfl rfl <| .nil ?_
    exact ⟨⟨k + 1, by omega, hlt⟩, by (try dsimp only); omega, StLe.mk [(1000, 1016)] rfl rfl ⟨⟨_, rfl, by rfl, rfl⟩, ⟨_, rfl, by rfl, rfl⟩, ⟨_, rfl, by rfl, rfl⟩, ⟨_, rfl, by rfl, rfl⟩, ⟨_, rfl, by rfl, rfl⟩, trivial⟩ ⟨⟨_, _, rfl, rfl, rfl, rfl, id, rfl⟩, ⟨_, _, rfl, rfl, by first | (simp only [AV.ren]; rw [xX, ← hS]; done) | (simp only [AV.ren]; rw [xX, ← hS, hz (by omega), Nat.mul_zero, Nat.add_zero]), rfl, id, rfl⟩, trivial⟩⟩
   ·simp only [decide_eq_false_iff_not] at hc32
    refine .skip <| .region <| .m rfl rfl <| .m rfl rfl <| .m rfl rfl <| .x (aX rfl rfl ⟨by omega, by omega⟩) rfl <| .x (op_shrI (n := n % 16) rfl rfl (by simp only [wW]; rw [show (n : Int) % 16 = ((n % 16 : Nat) : Int) by omega]) (by omega)) rfl <| .x (aX rfl rfl ⟨Int.ediv_nonneg (by omega) (Int.le_of_lt (Int.pow_pos (by decide))), by omega⟩) rfl ?_
    first
     | refine .as (.i64 (((dk a (n / 16 + k) + 65536 * dk a (n / 16 + k + 1)) / 2 ^ (n % 16) % 65536 : Nat) : Int)) (congrArg AV.i64 (shr_cast _ _)) ?_
     | refine .as (.i64 ((dk a (n / 16 + k) / 2 ^ (n % 16) % 65536 : Nat) : Int)) (congrArg AV.i64 (shr_cast _ _)) ?_
    refine .y (xZ (us := [_]) (c := .aggI [_]) Tryz.underlying38 inf3 rfl (by decide) (by decide) ⟨rfl, rfl, rfl, trivial⟩ rfl) rfl <| .y (kX Tryz.underlying38 inf3 rfl rfl rfl rfl (by simp only [AV.len, pY]; done) rfl rfl (by simp [AV.len]; done) rfl (by omega)) rfl <| .s rfl rfl <| .nil <| .region <| .x (lZ rfl rfl ⟨by omega, by omega⟩) rfl <| .m rfl rfl <| .nil ?_
    exact ⟨⟨k + 1, by omega, hlt⟩, by (try dsimp only); omega, StLe.mk [(1000, 1016)] rfl rfl ⟨⟨_, rfl, by rfl, rfl⟩, ⟨_, rfl, by rfl, rfl⟩, ⟨_, rfl, by rfl, rfl⟩, ⟨_, rfl, by rfl, rfl⟩, ⟨_, rfl, by rfl, rfl⟩, trivial⟩ ⟨⟨_, _, rfl, rfl, rfl, rfl, id, rfl⟩, ⟨_, _, rfl, rfl, by first | (simp only [AV.ren]; rw [xX, ← hS]; done) | (simp only [AV.ren]; rw [xX, ← hS, hz (by omega), Nat.mul_zero, Nat.add_zero]), rfl, id, rfl⟩, trivial⟩⟩
  ·simp only [decide_eq_false_iff_not] at hc22
   refine .exit <| .seq <| .region <| .m rfl rfl <| .x (aZ (U := []) [(500, 1000)] [] (trim_dn k (a / 2 ^ n) (by rw [show k = dl a - n / 16 by omega]; exact (half_lt a n).resolve_right (by omega)) (by omega)) Tryz.func49 (by kernel_rfl) rfl rfl rfl (⟨⟨_, rfl, rfl, rfl⟩, trivial⟩) (⟨⟨_, _, rfl, rfl, rfl, rfl, (fun h => by cases h), rfl⟩, trivial⟩) (trivial) (⟨(fun h => by cases h), trivial⟩) rfl) rfl <| .s rfl rfl <| .nil ?_
   first
    | refine Ev.pre (H2 := [(1000, some ⟨.aggI (dg (a / 2 ^ n)), 3, true⟩)]) ⟨⟨.aggI (dn k (a / 2 ^ n)), dl (a / 2 ^ n), rfl, pre_dn k (a / 2 ^ n) (uX (by rw [show k = dl a - n / 16 by omega]; exact (half_lt a n).resolve_right (by omega)))⟩, trivial⟩ ?_
    | skip
   refine .ret ?_
   first
    | exact iY rfl (.inl rfl) rfl rfl ⟨rfl, trivial⟩
    | exact iY rfl (.inl rfl) rfl (by rw [half_zero (show dl a ≤ n / 16 by omega), mU]) ⟨(by rw [half_zero (show dl a ≤ n / 16 by omega)]; unfold dg; rw [mU]; rfl), trivial⟩
end Go.Proofs.YtcnjekoidgefpaaGreatDoor
