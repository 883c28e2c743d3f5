/-
  Texts of this claim.
-/
import Derived.Test.YtcnjekoidgefpaaGreatDoorGKRV
import Derived.Test.YtcnjekoidgefpaaGreatDoorGKTV
import Derived.Test.YtcnjekoidgefpaaGreatDoorGFV
import Derived.Test.YtcnjekoidgefpaaGreatDoorGEV
namespace Go.Proofs.YtcnjekoidgefpaaGreatDoor
open Go.RowKit
theorem digit_mod (v k : Nat) : ((0 : Int) + ((dk v k : Nat) : Int)) % 65536 = ((dk v k : Nat) : Int) := by have := qU v k; omega
theorem digit_quo (v k : Nat) : ((0 : Int) + ((dk v k : Nat) : Int)) / 65536 = 0 := by have := qU v k; omega
set_option maxHeartbeats 1000000 in
set_option maxRecDepth 100000 in
theorem add_nr (n v : Nat) (hv : v < 65536 ^ n) (hn : n ≤ 1000) : kZ Tryz.prog 72 [.sl 500 0 n 1, .nilsl] [(500, some ⟨.aggI (dn n v), 3, false⟩)] (.sl 1000 0 (dl v) 1) [(1000, some ⟨.aggI (dg v), 3, true⟩)] := by
 refine mt (nt := 54) Tryz.func72 rfl rfl rfl <| .r <| .s rfl rfl <| .nil <| .r <| .y (dW (z := 1) (c := .aggI []) Tryz.underlying38 inf3 rfl) rfl <| .s rfl rfl <| .nil <| .r <| .s rfl rfl <| .nil <| .seq <| .r <| .s rfl rfl <| .nil <| .block <| Ev.loop (ι := { k : Nat // k ≤ n }) (fun q => ⟨[(0, .sl 500 0 n 1), (1, .nilsl), (5, .sl 1000 0 q.1 1), (6, .i64 0), (7, .i64 ((q.1 : Nat) : Int))], [(500, some ⟨.aggI (dn n v), 3, false⟩), (1000, some ⟨.aggI (dn q.1 v), 3, true⟩)], 1008⟩) (fun q => n - q.1) ⟨0, Nat.zero_le _⟩ (StLe.mk [(1000, 1000)] rfl rfl ⟨⟨_, rfl, by first | rfl | (simp only [AV.ren]; congr 1; omega), rfl⟩, ⟨_, rfl, by first | rfl | (simp only [AV.ren]; congr 1; omega), rfl⟩, ⟨_, rfl, by first | rfl | (simp only [AV.ren]; congr 1; omega), rfl⟩, ⟨_, rfl, by first | rfl | (simp only [AV.ren]; congr 1; omega), rfl⟩, ⟨_, rfl, by first | rfl | (simp only [AV.ren]; congr 1; omega), rfl⟩, trivial⟩ ⟨⟨_, _, rfl, rfl, rfl, rfl, id, rfl⟩, ⟨_, _, rfl, rfl, rfl, rfl, id, rfl⟩, trivial⟩) ?_
 rintro ⟨k, hk⟩
 try dsimp only
 have hl := gY k v
 have hln := gY n v
 have hA : k < n → (dn n v).getD k 0 = (dk v k : Int) := fun h => aW _ _ _ h
 have d1 := qU v k
 refine .seq <| .r <| .m rfl rfl <| .m rfl rfl <| .x (rZ Tryz.underlying38 rfl) rfl <| .x (gZ rfl rfl rfl) rfl <| .m rfl rfl <| .split (fun hg13 => ?_) (fun hg13 => ?_)
 ·simp only [decide_eq_true_eq] at hg13
  refine .no ⟨_, rfl, rfl⟩ rfl <| .no ⟨_, rfl, rfl⟩ rfl <| .no ⟨_, rfl, rfl⟩ rfl <| .no ⟨_, rfl, rfl⟩ rfl <| .x (sY rfl rfl rfl) rfl <| .m rfl rfl <| .no ⟨_, rfl, rfl⟩ rfl <| .no ⟨_, rfl, rfl⟩ rfl <| .x (sY rfl rfl rfl) rfl <| .nil <| .cond_true rfl rfl <| .skip <| .seq <| .block <| .seq <| .r <| .m rfl rfl <| .m rfl rfl <| .x (rZ Tryz.underlying38 rfl) rfl <| .x (gZ rfl rfl rfl) rfl <| .nil <| .cond_true rfl (decide_eq_true (by omega)) <| .region <| .m rfl rfl <| .m rfl rfl <| .m rfl rfl <| .x (cY Tryz.underlying38 inf3.sz rfl rfl rfl (by omega)) rfl <| .x (fZ Tryz.underlying3 rfl rfl rfl rfl (by simp only [AV.len]; omega)) rfl <| .as (.i64 ((dk v k : Nat) : Int)) (congrArg AV.i64 (hA (by omega))) <| .x (jZ rfl rfl ⟨by omega, by omega⟩) rfl <| .s rfl rfl <| .nil <| .seq <| .r <| .m rfl rfl <| .m rfl rfl <| .x (iP Tryz.underlying38 rfl) rfl <| .x (gZ rfl rfl rfl) rfl <| .nil <| .cond_false rfl (decide_eq_false (by omega)) <| .skip <| .r <| .m rfl rfl <| .m rfl rfl <| .x (qY rfl rfl ⟨by omega, by omega⟩) rfl <| .as (.i64 ((dk v k : Nat) : Int)) (congrArg AV.i64 (digit_mod v k)) <| .y (vZ (us := [_]) (c := .aggI [_]) Tryz.underlying38 inf3 rfl (by decide) (by decide) ⟨rfl, rfl, rfl, trivial⟩ rfl) rfl <| .y (aX Tryz.underlying38 inf3 rfl rfl rfl rfl (by simp only [AV.len, gY]; done) rfl rfl (by simp [AV.len]; done) rfl (by omega)) rfl <| .s rfl rfl <| .nil <| .region <| .m rfl rfl <| .x (pY rfl rfl ⟨by omega, ⟨by omega, by omega⟩, by omega⟩) rfl <| .as (.i64 0) (congrArg AV.i64 (digit_quo v k)) <| .s rfl rfl <| .nil <| .region <| .m rfl rfl <| .x (jZ rfl rfl ⟨by omega, by omega⟩) rfl <| .s rfl rfl <| .nil ?_
  exact ⟨⟨k + 1, by omega⟩, by (try dsimp only); omega, StLe.mk [(1000, 1016)] rfl rfl ⟨⟨_, rfl, by rfl, rfl⟩, ⟨_, rfl, by rfl, rfl⟩, ⟨_, rfl, by rfl, rfl⟩, ⟨_, rfl, by rfl, rfl⟩, ⟨_, rfl, by (simp only [AV.ren]; congr 1), rfl⟩, trivial⟩ ⟨⟨_, _, rfl, rfl, rfl, rfl, id, rfl⟩, ⟨_, _, rfl, rfl, by (simp only [AV.ren]; rw [tX]), rfl, id, rfl⟩, trivial⟩⟩
 ·simp only [decide_eq_false_iff_not] at hg13
  refine .q (iX rfl) ⟨_, rfl, rfl⟩ rfl <| .q (iX rfl) ⟨_, rfl, rfl⟩ rfl <| .q (iP Tryz.underlying38 rfl) ⟨_, rfl, rfl⟩ rfl <| .q (gZ rfl rfl rfl) ⟨_, rfl, rfl⟩ rfl <| .x (aY rfl rfl rfl) rfl <| .m rfl rfl <| .know (b' := false) (decide_eq_false (by omega)) <| .q (iX rfl) ⟨_, rfl, rfl⟩ rfl <| .q (gZ rfl rfl rfl) ⟨_, rfl, rfl⟩ rfl <| .x (aY rfl rfl rfl) rfl <| .nil <| .cond_false rfl (by decide) <| .exit <| .r <| .m rfl rfl <| .x (aZ (U := []) [(500, 1000)] [] (kS k v (by rw [show k = n by omega]; exact hv) (by omega)) Tryz.func49 (by kernel_rfl) rfl rfl rfl (⟨⟨_, rfl, rfl, rfl⟩, trivial⟩) (⟨⟨_, _, rfl, rfl, rfl, rfl, nf, rfl⟩, trivial⟩) (trivial) (⟨nf, trivial⟩) rfl) rfl <| .s rfl rfl <| .nil <| Ev.pre (H2 := [(1000, some ⟨.aggI (dg v), 3, true⟩)]) ⟨⟨.aggI (dn k v), dl v, rfl, wP k v (qX (by rw [show k = n by omega]; exact hv))⟩, trivial⟩ <| .ret ?_
  exact yZ rfl (.inl rfl) rfl rfl ⟨rfl, trivial⟩
set_option maxHeartbeats 1000000 in
set_option maxRecDepth 100000 in
theorem add_nl (n v : Nat) (hv : v < 65536 ^ n) (hn : n ≤ 1000) : kZ Tryz.prog 72 [.nilsl, .sl 501 0 n 1] [(501, some ⟨.aggI (dn n v), 3, false⟩)] (.sl 1000 0 (dl v) 1) [(1000, some ⟨.aggI (dg v), 3, true⟩)] := by
 refine mt (nt := 54) Tryz.func72 rfl rfl rfl <| .r <| .s rfl rfl <| .nil <| .r <| .y (dW (z := 1) (c := .aggI []) Tryz.underlying38 inf3 rfl) rfl <| .s rfl rfl <| .nil <| .r <| .s rfl rfl <| .nil <| .seq <| .r <| .s rfl rfl <| .nil <| .block <| Ev.loop (ι := { k : Nat // k ≤ n }) (fun q => ⟨[(0, .nilsl), (1, .sl 501 0 n 1), (5, .sl 1000 0 q.1 1), (6, .i64 0), (7, .i64 ((q.1 : Nat) : Int))], [(501, some ⟨.aggI (dn n v), 3, false⟩), (1000, some ⟨.aggI (dn q.1 v), 3, true⟩)], 1008⟩) (fun q => n - q.1) ⟨0, Nat.zero_le _⟩ (StLe.mk [(1000, 1000)] rfl rfl ⟨⟨_, rfl, by first | rfl | (simp only [AV.ren]; congr 1; omega), rfl⟩, ⟨_, rfl, by first | rfl | (simp only [AV.ren]; congr 1; omega), rfl⟩, ⟨_, rfl, by first | rfl | (simp only [AV.ren]; congr 1; omega), rfl⟩, ⟨_, rfl, by first | rfl | (simp only [AV.ren]; congr 1; omega), rfl⟩, ⟨_, rfl, by first | rfl | (simp only [AV.ren]; congr 1; omega), rfl⟩, trivial⟩ ⟨⟨_, _, rfl, rfl, rfl, rfl, id, rfl⟩, ⟨_, _, rfl, rfl, rfl, rfl, id, rfl⟩, trivial⟩) ?_
 rintro ⟨k, hk⟩
 try dsimp only
 have hl := gY k v
 have hln := gY n v
 have hA : k < n → (dn n v).getD k 0 = (dk v k : Int) := fun h => aW _ _ _ h
 have d1 := qU v k
 refine .seq <| .r <| .m rfl rfl <| .m rfl rfl <| .x (iP Tryz.underlying38 rfl) rfl <| .x (gZ rfl rfl rfl) rfl <| .m rfl rfl <| .know (b' := false) (decide_eq_false (by omega)) <| .q (iX rfl) ⟨_, rfl, rfl⟩ rfl <| .q (iX rfl) ⟨_, rfl, rfl⟩ rfl <| .q (rZ Tryz.underlying38 rfl) ⟨_, rfl, rfl⟩ rfl <| .q (gZ rfl rfl rfl) ⟨_, rfl, rfl⟩ rfl <| .x (aY rfl rfl rfl) rfl <| .m rfl rfl <| .split (fun hg19 => ?_) (fun hg19 => ?_)
 ·simp only [decide_eq_true_eq] at hg19
  refine .no ⟨_, rfl, rfl⟩ rfl <| .no ⟨_, rfl, rfl⟩ rfl <| .x (sY rfl rfl rfl) rfl <| .nil <| .cond_true rfl rfl <| .skip <| .seq <| .block <| .seq <| .r <| .m rfl rfl <| .m rfl rfl <| .x (iP Tryz.underlying38 rfl) rfl <| .x (gZ rfl rfl rfl) rfl <| .nil <| .cond_false rfl (decide_eq_false (by omega)) <| .skip <| .seq <| .r <| .m rfl rfl <| .m rfl rfl <| .x (rZ Tryz.underlying38 rfl) rfl <| .x (gZ rfl rfl rfl) rfl <| .nil <| .cond_true rfl (decide_eq_true (by omega)) <| .region <| .m rfl rfl <| .m rfl rfl <| .m rfl rfl <| .x (cY Tryz.underlying38 inf3.sz rfl rfl rfl (by omega)) rfl <| .x (fZ Tryz.underlying3 rfl rfl rfl rfl (by simp only [AV.len]; omega)) rfl <| .as (.i64 ((dk v k : Nat) : Int)) (congrArg AV.i64 (hA (by omega))) <| .x (jZ rfl rfl ⟨by omega, by omega⟩) rfl <| .s rfl rfl <| .nil <| .r <| .m rfl rfl <| .m rfl rfl <| .x (qY rfl rfl ⟨by omega, by omega⟩) rfl <| .as (.i64 ((dk v k : Nat) : Int)) (congrArg AV.i64 (digit_mod v k)) <| .y (vZ (us := [_]) (c := .aggI [_]) Tryz.underlying38 inf3 rfl (by decide) (by decide) ⟨rfl, rfl, rfl, trivial⟩ rfl) rfl <| .y (aX Tryz.underlying38 inf3 rfl rfl rfl rfl (by simp only [AV.len, gY]; done) rfl rfl (by simp [AV.len]; done) rfl (by omega)) rfl <| .s rfl rfl <| .nil <| .region <| .m rfl rfl <| .x (pY rfl rfl ⟨by omega, ⟨by omega, by omega⟩, by omega⟩) rfl <| .as (.i64 0) (congrArg AV.i64 (digit_quo v k)) <| .s rfl rfl <| .nil <| .region <| .m rfl rfl <| .x (jZ rfl rfl ⟨by omega, by omega⟩) rfl <| .s rfl rfl <| .nil ?_
  exact ⟨⟨k + 1, by omega⟩, by (try dsimp only); omega, StLe.mk [(1000, 1016)] rfl rfl ⟨⟨_, rfl, by rfl, rfl⟩, ⟨_, rfl, by rfl, rfl⟩, ⟨_, rfl, by rfl, rfl⟩, ⟨_, rfl, by rfl, rfl⟩, ⟨_, rfl, by (simp only [AV.ren]; congr 1), rfl⟩, trivial⟩ ⟨⟨_, _, rfl, rfl, rfl, rfl, id, rfl⟩, ⟨_, _, rfl, rfl, by (simp only [AV.ren]; rw [tX]), rfl, id, rfl⟩, trivial⟩⟩
 ·simp only [decide_eq_false_iff_not] at hg19
  refine .q (iX rfl) ⟨_, rfl, rfl⟩ rfl <| .q (gZ rfl rfl rfl) ⟨_, rfl, rfl⟩ rfl <| .x (aY rfl rfl rfl) rfl <| .nil <| .cond_false rfl (by decide) <| .exit <| .r <| .m rfl rfl <| .x (aZ (U := []) [(500, 1000)] [] (kS k v (by rw [show k = n by omega]; exact hv) (by omega)) Tryz.func49 (by kernel_rfl) rfl rfl rfl (⟨⟨_, rfl, rfl, rfl⟩, trivial⟩) (⟨⟨_, _, rfl, rfl, rfl, rfl, nf, rfl⟩, trivial⟩) (trivial) (⟨nf, trivial⟩) rfl) rfl <| .s rfl rfl <| .nil <| Ev.pre (H2 := [(1000, some ⟨.aggI (dg v), 3, true⟩)]) ⟨⟨.aggI (dn k v), dl v, rfl, wP k v (qX (by rw [show k = n by omega]; exact hv))⟩, trivial⟩ <| .ret ?_
  exact yZ rfl (.inl rfl) rfl rfl ⟨rfl, trivial⟩
end Go.Proofs.YtcnjekoidgefpaaGreatDoor
namespace Go.Proofs.YtcnjekoidgefpaaGreatDoor
open Go.RowKit
theorem rV : dl fp ≤ 16 := qX (by decide)
theorem dl_255 : dl (2 ^ 255) = 16 := dl_pow 255
theorem dn_eq (n a b : Nat) (h : ∀ i, i < n → a / 65536 ^ i % 65536 = b / 65536 ^ i % 65536) : dn n a = dn n b := by
  induction n with
  | zero => rfl
  | succ n ih => rw [rT, rT, ih (fun i hi => h i (by omega)), h n (by omega)]
theorem low_digit (a : Nat) (i : Nat) (h : i < 15) : a / 65536 ^ i % 65536 = (a % 2 ^ 255) / 65536 ^ i % 65536 := by
  have e : a = a % 2 ^ 255 + 65536 ^ i * (65536 * (65536 ^ (14 - i) * (32768 * (a / 2 ^ 255)))) := by
    have hp : 65536 ^ i * (65536 * 65536 ^ (14 - i)) = 65536 ^ 15 := by rw [← Nat.pow_succ', ← Nat.pow_add, show i + (14 - i + 1) = 15 by omega]
    have : 65536 ^ i * (65536 * (65536 ^ (14 - i) * (32768 * (a / 2 ^ 255)))) = 65536 ^ 15 * (32768 * (a / 2 ^ 255)) := by rw [← hp]; grind
    rw [this]
    have h15 : (65536 : Nat) ^ 15 = 1766847064778384329583297500742918515827483896875618958121606201292619776 := by decide
    rw [h15]; omega
  conv => lhs; rw [e]
  rw [Nat.add_mul_div_left _ _ (Nat.pow_pos (by decide)), Nat.add_mul_mod_self_left]
theorem low_top (a : Nat) : (a % 2 ^ 255) / 65536 ^ 15 % 65536 = a / 65536 ^ 15 % 65536 % 32768 := by
  have h15 : (65536 : Nat) ^ 15 = 1766847064778384329583297500742918515827483896875618958121606201292619776 := by decide
  rw [h15]; omega
theorem low_set (a : Nat) : (dn 16 a).set 15 (((dk a 15 : Nat) : Int) % 32768) = dn 16 (a % 2 ^ 255) := by
  rw [rT 15 a, rT 15 (a % 2 ^ 255), List.set_append_right _ _ (by rw [gY]; omega), gY, Nat.sub_self, dn_eq 15 a (a % 2 ^ 255) (fun i hi => low_digit a i hi), low_top]
  simp only [List.set_cons_zero]
  congr 2
theorem low_lt16 (a : Nat) : a % 2 ^ 255 < 65536 ^ 16 := by
  have h16 : (65536 : Nat) ^ 16 = 2 ^ 256 := by decide
  rw [h16]; omega
theorem top_lt {a : Nat} (h : a < 2 ^ 255) : dk a 15 < 32768 := by
  have h15 : (65536 : Nat) ^ 15 = 1766847064778384329583297500742918515827483896875618958121606201292619776 := by decide
  unfold dk; rw [h15]; omega
theorem top_ge {a : Nat} (h : 2 ^ 255 ≤ a) (hd : dl a ≤ 16) : 32768 ≤ dk a 15 := by
  have h15 : (65536 : Nat) ^ 15 = 1766847064778384329583297500742918515827483896875618958121606201292619776 := by decide
  have h16 : (65536 : Nat) ^ 16 = 2 ^ 256 := by decide
  have hl := Nat.lt_of_lt_of_le (bW a) (Nat.pow_le_pow_right (show 0 < 65536 by decide) hd)
  unfold dk; rw [h15]; rw [h16] at hl; omega
theorem dl_big {a : Nat} (h : 2 ^ 255 ≤ a) : 16 ≤ dl a := by
  refine dl_ge (n := 15) (Nat.le_trans ?_ h)
  decide
theorem eO {a : Nat} (h : a < 2 ^ 255) : dl a ≤ 16 := qX (Nat.lt_trans h (by decide))
theorem cL {a : Nat} (h : dl a < 16) : a % 2 ^ 255 = a := by
  refine Nat.mod_eq_of_lt (Nat.lt_of_lt_of_le (bW a) ?_)
  exact Nat.le_trans (Nat.pow_le_pow_right (by decide) (show dl a ≤ 15 by omega)) (by decide)
theorem cmpF (a b : Nat) : 0 ≤ cmpN a b ↔ b ≤ a := by
  unfold cmpN; split
  · omega
  · split <;> omega
def aU (y : Nat) : Nat := y % 2 ^ 255 + y / 2 ^ 255 * 19
theorem qQ (y : Nat) : aU y ≤ y := by unfold aU; omega
theorem foldF_lt {y : Nat} (h : 2 ^ 255 ≤ y) : aU y < y := by unfold aU; omega
theorem tO (y : Nat) : aU y % fp = y % fp := by
  have : y = aU y + fp * (y / 2 ^ 255) := by unfold aU fp; omega
  conv => rhs; rw [this]
  rw [Nat.add_mul_mod_self_left]
theorem fp_255 : fp < 2 ^ 255 := by decide
theorem uU {x y : Nat} (h : y % fp = x % fp) (h1 : y < 2 ^ 255) (h2 : fp ≤ y) : y - fp = x % fp := by
  rw [← h]; unfold fp at *; omega
theorem xP {x y : Nat} (h : y % fp = x % fp) (h2 : ¬ fp ≤ y) : y = x % fp := by
  rw [← h]; exact (Nat.mod_eq_of_lt (by omega)).symm
theorem vJ {a b n : Nat} (ha : dl a ≤ n) (hb : dl b ≤ n) : dl (a + b) ≤ n + 1 := by
  refine qX ?_
  have h1 := Nat.lt_of_lt_of_le (bW a) (Nat.pow_le_pow_right (show 0 < 65536 by decide) ha)
  have h2 := Nat.lt_of_lt_of_le (bW b) (Nat.pow_le_pow_right (show 0 < 65536 by decide) hb)
  rw [Nat.pow_succ]; omega
theorem uJ {a b n m : Nat} (ha : dl a ≤ n) (hb : dl b ≤ m) : dl (a * b) ≤ n + m := by
  refine qX ?_
  have h1 := Nat.lt_of_lt_of_le (bW a) (Nat.pow_le_pow_right (show 0 < 65536 by decide) ha)
  have h2 := Nat.lt_of_lt_of_le (bW b) (Nat.pow_le_pow_right (show 0 < 65536 by decide) hb)
  rw [Nat.pow_add]
  exact Nat.mul_lt_mul_of_lt_of_le h1 (Nat.le_of_lt h2) (Nat.lt_of_le_of_lt (Nat.zero_le _) h2)
set_option maxHeartbeats 1000000 in
set_option maxRecDepth 100000 in
theorem P_ev  : kZ Tryz.prog 85 [] [] (.sl 1000 0 (dl fp) 1) [(1000, some ⟨.aggI (dg fp), 3, true⟩)] := by
 refine mt (nt := 4) Tryz.func85 rfl rfl rfl <| .r <| .s rfl rfl <| .nil <| .r <| .y (aZ (U := [(1000, some ⟨.aggI (dg (2 ^ 255)), 3, true⟩)]) [] [(1000, 1000)] (bO 255 (by omega)) Tryz.func112 (by kernel_rfl) rfl rfl rfl (⟨⟨_, rfl, rfl, rfl⟩, trivial⟩) (trivial) (⟨⟨1000, _, rfl, rfl, rfl, rfl, .inl rfl⟩, trivial⟩) (trivial) rfl) rfl <| .y (aZ (U := [(1008, some ⟨.aggI (dg (19)), 3, true⟩)]) [] [(1008, 1000)] (kX 19 (by omega)) Tryz.func42 (by kernel_rfl) rfl rfl rfl (⟨⟨_, rfl, rfl, rfl⟩, trivial⟩) (trivial) (⟨⟨1000, _, rfl, rfl, rfl, rfl, .inl rfl⟩, trivial⟩) (trivial) rfl) rfl <| .y (aZ (U := [(1016, some ⟨.aggI (dg (2 ^ 255 - 19)), 3, true⟩)]) [(500, 1000), (501, 1008)] [(1016, 1000)] (gS (2 ^ 255) 19 (by decide) (by have := dl_255; omega) (Nat.le_trans (qX (n := 1) (by decide)) (by decide))) Tryz.func84 (by kernel_rfl) rfl rfl rfl (⟨⟨_, rfl, rfl, rfl⟩, ⟨_, rfl, rfl, rfl⟩, trivial⟩) (⟨⟨_, _, rfl, rfl, rfl, rfl, nf, rfl⟩, ⟨_, _, rfl, rfl, rfl, rfl, nf, rfl⟩, trivial⟩) (⟨⟨1000, _, rfl, rfl, rfl, rfl, .inl rfl⟩, trivial⟩) (⟨nf, nf, trivial⟩) rfl) rfl <| .s rfl rfl <| .nil <| Ev.weak (st2 := ⟨[(0, .sl 1000 0 (dl (fp)) 1)], [(1000, some ⟨.aggI (dg (fp)), 3, true⟩)], 1008⟩) (StLe.mk [(1000, 1016)] rfl rfl ⟨⟨_, rfl, by (show AV.sl 1000 0 (dl (2 ^ 255 - 19)) 1 = _; rw [fp_eq]), rfl⟩, trivial⟩ ⟨⟨_, _, rfl, rfl, by (show AV.aggI (dg (2 ^ 255 - 19)) = _; rw [fp_eq]), rfl, id, rfl⟩, trivial⟩) <| .ret ?_
 exact yZ rfl (.inl rfl) rfl rfl ⟨rfl, trivial⟩
set_option maxHeartbeats 1000000 in
set_option maxRecDepth 100000 in
theorem low_id (a : Nat) (h : dl a < 16) : kZ Tryz.prog 86 [.sl 500 0 (dl a) 1] [(500, some ⟨.aggI (dg a), 3, false⟩)] (.sl 500 0 (dl a) 1) [] := by
 refine mt (nt := 20) Tryz.func86 rfl rfl rfl <| .r <| .s rfl rfl <| .nil <| .seq <| .r <| .m rfl rfl <| .x (rZ Tryz.underlying38 rfl) rfl <| .x (gZ rfl rfl rfl) rfl <| .nil <| .cond_true rfl (decide_eq_true (by omega)) <| .r <| .m rfl rfl <| .s rfl rfl <| .nil <| .ret ?_
 exact yZ rfl (.inl rfl) rfl rfl trivial
theorem cat16 (a : Nat) (h : 16 ≤ dl a) : (AV.aggI (dn 16 a)).list = (AV.aggI []).list ++ ((AV.aggI (dg a)).list.drop 0).take (16 * 1) := by
 show (dn 16 a).map AV.i64 = [] ++ (((dg a).map AV.i64).drop 0).take 16
 rw [List.nil_append, List.drop_zero, ← List.map_take, show (dg a).take 16 = dn 16 a from dn_take (dl a) 16 a h]
set_option maxHeartbeats 1000000 in
set_option maxRecDepth 100000 in
theorem uR (a : Nat) (h : 16 ≤ dl a) (ha : dl a ≤ 1000) : kZ Tryz.prog 86 [.sl 500 0 (dl a) 1] [(500, some ⟨.aggI (dg a), 3, false⟩)] (.sl 1000 0 (dl (a % 2 ^ 255)) 1) [(1000, some ⟨.aggI (dg (a % 2 ^ 255)), 3, true⟩)] := by
 refine mt (nt := 20) Tryz.func86 rfl rfl rfl <| .r <| .s rfl rfl <| .nil <| .seq <| .r <| .m rfl rfl <| .x (rZ Tryz.underlying38 rfl) rfl <| .x (gZ rfl rfl rfl) rfl <| .nil <| .cond_false rfl (decide_eq_false (by omega)) <| .skip <| .r <| .y (dW (z := 1) (c := .aggI []) Tryz.underlying38 inf3 rfl) rfl <| .m rfl rfl <| .x (lR Tryz.underlying38 inf3.sz rfl (xZ rfl rfl) (by omega)) rfl <| .y (ap_append (c' := .aggI (dn 16 a)) Tryz.underlying38 Tryz.underlying38 (.inr ⟨_, rfl⟩) inf3 rfl rfl rfl rfl rfl (yQ (z := 1) (m := 16) (o := 0) rfl rfl (by show 0 + 16 * 1 ≤ (dg a).length; rw [dX]; omega)) (cat16 a h) (by decide)) rfl <| .s rfl rfl <| .nil <| .r <| .m rfl rfl <| .m rfl rfl <| .x (cY Tryz.underlying38 inf3.sz rfl rfl rfl (by simp; done)) rfl <| .x (fZ Tryz.underlying3 rfl rfl rfl rfl (by show 15 < (dn 16 a).length; rw [gY]; decide)) rfl <| .as (.i64 ((dk a 15 : Nat) : Int)) (congrArg AV.i64 (aW 16 a 15 (by decide))) <| .x (qY rfl rfl ⟨by omega, by omega⟩) rfl <| .x (cY Tryz.underlying38 inf3.sz rfl rfl rfl (by simp; done)) rfl <| .w (iY inf3.sz rfl rfl rfl rfl rfl (by show 15 < (dn 16 a).length; rw [gY]; decide)) trivial rfl <| .asH (.aggI (dn 16 (a % 2 ^ 255))) (congrArg AV.aggI (low_set a)) <| .nil <| .r <| .m rfl rfl <| .y (aZ (U := [(1016, some ⟨.aggI (dg (a % 2 ^ 255)), 3, true⟩)]) [(500, 1008)] [(1016, 1000)] (add_nr 16 (a % 2 ^ 255) (low_lt16 a) (by decide)) Tryz.func72 (by kernel_rfl) rfl rfl rfl (⟨⟨_, rfl, rfl, rfl⟩, ⟨_, rfl, rfl, rfl⟩, trivial⟩) (⟨⟨_, _, rfl, rfl, rfl, rfl, nf, rfl⟩, trivial⟩) (⟨⟨1000, _, rfl, rfl, rfl, rfl, .inl rfl⟩, trivial⟩) (⟨nf, trivial⟩) rfl) rfl <| .s rfl rfl <| .nil <| Ev.weak (st2 := ⟨[(2, .sl 1000 0 (dl (a % 2 ^ 255)) 1)], [(1000, some ⟨.aggI (dg (a % 2 ^ 255)), 3, true⟩)], 1008⟩) (StLe.mk [(1000, 1016)] rfl rfl ⟨⟨_, rfl, by (show AV.sl 1000 0 (dl (a % 2 ^ 255)) 1 = _; rfl), rfl⟩, trivial⟩ ⟨⟨_, _, rfl, rfl, by (show AV.aggI (dg (a % 2 ^ 255)) = _; rfl), rfl, id, rfl⟩, trivial⟩) <| .ret ?_
 exact yZ rfl (.inl rfl) rfl rfl ⟨rfl, trivial⟩
end Go.Proofs.YtcnjekoidgefpaaGreatDoor
namespace Go.Proofs.YtcnjekoidgefpaaGreatDoor
open Go.RowKit
set_option maxHeartbeats 1000000 in
set_option maxRecDepth 100000 in
theorem yP (a : Nat) (h : a < fp) : kZ Tryz.prog 83 [.sl 500 0 (dl a) 1] [(500, some ⟨.aggI (dg a), 3, false⟩)] (.sl 500 0 (dl a) 1) [] := by
 have hd : dl a ≤ 16 := eO (by have := fp_255; omega)
 have htop := top_lt (a := a) (by have := fp_255; omega)
 have hdk : 15 < dl a → (dg a).getD 15 0 = (dk a 15 : Int) := fun h => aW _ _ _ h
 have hlg := dX a
 have hcm := cmpF a fp
 refine mt (nt := 32) Tryz.func83 rfl rfl rfl <| .r <| .s rfl rfl <| .nil <| .seq <| .block <| Ev.loop (ι := Unit) (fun q => ⟨[(0, .sl 500 0 (dl a) 1)], [(500, some ⟨.aggI (dg a), 3, false⟩)], 1000⟩) (fun q => 0) () (StLe.mk [] rfl rfl ⟨⟨_, rfl, by first | rfl | (simp only [AV.ren]; congr 1; omega), rfl⟩, trivial⟩ ⟨⟨_, _, rfl, rfl, rfl, rfl, id, rfl⟩, trivial⟩) ?_
 rintro ⟨⟩
 try dsimp only
 refine .seq <| .r <| .m rfl rfl <| .x (rZ Tryz.underlying38 rfl) rfl <| .x (gZ rfl rfl rfl) rfl <| .m rfl rfl <| .know (b' := false) (decide_eq_false (by omega)) <| .q (iX rfl) ⟨_, rfl, rfl⟩ rfl <| .q (rZ Tryz.underlying38 rfl) ⟨_, rfl, rfl⟩ rfl <| .q (gZ rfl rfl rfl) ⟨_, rfl, rfl⟩ rfl <| .q (iX rfl) ⟨_, rfl, rfl⟩ rfl <| .split (fun hg10 => ?_) (fun hg10 => ?_)
 ·simp only [beq_iff_eq] at hg10
  refine .q (iX rfl) ⟨_, rfl, rfl⟩ rfl <| .q (cY Tryz.underlying38 inf3.sz rfl rfl rfl (by simp only [AV.len]; omega)) ⟨_, rfl, rfl⟩ rfl <| .q (fZ Tryz.underlying3 rfl rfl rfl rfl (by show 15 < (dg a).length; omega)) ⟨_, rfl, rfl⟩ rfl <| .as (.i64 ((dk a 15 : Nat) : Int)) (congrArg AV.i64 (hdk (by omega))) <| .q (gZ rfl rfl rfl) ⟨_, rfl, rfl⟩ rfl <| .q (sY rfl rfl rfl) ⟨_, rfl, rfl⟩ rfl <| .x (aY rfl rfl rfl) rfl <| .nil <| .cond_false rfl (by exact decide_eq_false (by omega)) <| .exit <| .seq <| .r <| .m rfl rfl <| .y (aZ (U := [(1000, some ⟨.aggI (dg (fp)), 3, true⟩)]) [] [(1000, 1000)] (P_ev) Tryz.func85 (by kernel_rfl) rfl rfl rfl (trivial) (trivial) (⟨⟨1000, _, rfl, rfl, rfl, rfl, .inl rfl⟩, trivial⟩) (trivial) rfl) rfl <| .x (aZ (U := []) [(500, 500), (501, 1000)] [] (oV a fp (by omega) (by have := rV; omega)) Tryz.func82 (by kernel_rfl) rfl rfl rfl (⟨⟨_, rfl, rfl, rfl⟩, ⟨_, rfl, rfl, rfl⟩, trivial⟩) (⟨⟨_, _, rfl, rfl, rfl, rfl, nf, rfl⟩, ⟨_, _, rfl, rfl, rfl, rfl, nf, rfl⟩, trivial⟩) (trivial) (⟨nf, nf, trivial⟩) rfl) rfl <| .x (gZ rfl rfl rfl) rfl <| .nil <| .cond_false rfl (decide_eq_false (by omega)) <| .skip <| .r <| .m rfl rfl <| .s rfl rfl <| .nil <| .ret ?_
  exact yZ rfl (.inl rfl) rfl rfl trivial
 ·simp only [ne_eq, beq_eq_false_iff_ne] at hg10
  refine .no ⟨_, rfl, rfl⟩ rfl <| .no ⟨_, rfl, rfl⟩ rfl <| .no ⟨_, rfl, rfl⟩ rfl <| .no ⟨_, rfl, rfl⟩ rfl <| .q (aY rfl rfl rfl) ⟨_, rfl, rfl⟩ rfl <| .x (aY rfl rfl rfl) rfl <| .nil <| .cond_false rfl rfl <| .exit <| .seq <| .r <| .m rfl rfl <| .y (aZ (U := [(1000, some ⟨.aggI (dg (fp)), 3, true⟩)]) [] [(1000, 1000)] (P_ev) Tryz.func85 (by kernel_rfl) rfl rfl rfl (trivial) (trivial) (⟨⟨1000, _, rfl, rfl, rfl, rfl, .inl rfl⟩, trivial⟩) (trivial) rfl) rfl <| .x (aZ (U := []) [(500, 500), (501, 1000)] [] (oV a fp (by omega) (by have := rV; omega)) Tryz.func82 (by kernel_rfl) rfl rfl rfl (⟨⟨_, rfl, rfl, rfl⟩, ⟨_, rfl, rfl, rfl⟩, trivial⟩) (⟨⟨_, _, rfl, rfl, rfl, rfl, nf, rfl⟩, ⟨_, _, rfl, rfl, rfl, rfl, nf, rfl⟩, trivial⟩) (trivial) (⟨nf, nf, trivial⟩) rfl) rfl <| .x (gZ rfl rfl rfl) rfl <| .nil <| .cond_false rfl (decide_eq_false (by omega)) <| .skip <| .r <| .m rfl rfl <| .s rfl rfl <| .nil <| .ret ?_
  exact yZ rfl (.inl rfl) rfl rfl trivial
set_option maxHeartbeats 1000000 in
set_option maxRecDepth 100000 in
theorem cut_sub (a : Nat) (h : fp ≤ a) (h2 : a < 2 ^ 255) : kZ Tryz.prog 83 [.sl 500 0 (dl a) 1] [(500, some ⟨.aggI (dg a), 3, false⟩)] (.sl 1000 0 (dl (a % fp)) 1) [(1000, some ⟨.aggI (dg (a % fp)), 3, true⟩)] := by
 have hd : dl a ≤ 16 := eO (by have := fp_255; omega)
 have htop := top_lt (a := a) (by have := fp_255; omega)
 have hdk : 15 < dl a → (dg a).getD 15 0 = (dk a 15 : Int) := fun h => aW _ _ _ h
 have hlg := dX a
 have hcm := cmpF a fp
 refine mt (nt := 32) Tryz.func83 rfl rfl rfl <| .r <| .s rfl rfl <| .nil <| .seq <| .block <| Ev.loop (ι := Unit) (fun q => ⟨[(0, .sl 500 0 (dl a) 1)], [(500, some ⟨.aggI (dg a), 3, false⟩)], 1000⟩) (fun q => 0) () (StLe.mk [] rfl rfl ⟨⟨_, rfl, by first | rfl | (simp only [AV.ren]; congr 1; omega), rfl⟩, trivial⟩ ⟨⟨_, _, rfl, rfl, rfl, rfl, id, rfl⟩, trivial⟩) ?_
 rintro ⟨⟩
 try dsimp only
 refine .seq <| .r <| .m rfl rfl <| .x (rZ Tryz.underlying38 rfl) rfl <| .x (gZ rfl rfl rfl) rfl <| .m rfl rfl <| .know (b' := false) (decide_eq_false (by omega)) <| .q (iX rfl) ⟨_, rfl, rfl⟩ rfl <| .q (rZ Tryz.underlying38 rfl) ⟨_, rfl, rfl⟩ rfl <| .q (gZ rfl rfl rfl) ⟨_, rfl, rfl⟩ rfl <| .q (iX rfl) ⟨_, rfl, rfl⟩ rfl <| .split (fun hg10 => ?_) (fun hg10 => ?_)
 ·simp only [beq_iff_eq] at hg10
  refine .q (iX rfl) ⟨_, rfl, rfl⟩ rfl <| .q (cY Tryz.underlying38 inf3.sz rfl rfl rfl (by simp only [AV.len]; omega)) ⟨_, rfl, rfl⟩ rfl <| .q (fZ Tryz.underlying3 rfl rfl rfl rfl (by show 15 < (dg a).length; omega)) ⟨_, rfl, rfl⟩ rfl <| .as (.i64 ((dk a 15 : Nat) : Int)) (congrArg AV.i64 (hdk (by omega))) <| .q (gZ rfl rfl rfl) ⟨_, rfl, rfl⟩ rfl <| .q (sY rfl rfl rfl) ⟨_, rfl, rfl⟩ rfl <| .x (aY rfl rfl rfl) rfl <| .nil <| .cond_false rfl (by exact decide_eq_false (by omega)) <| .exit <| .seq <| .r <| .m rfl rfl <| .y (aZ (U := [(1000, some ⟨.aggI (dg (fp)), 3, true⟩)]) [] [(1000, 1000)] (P_ev) Tryz.func85 (by kernel_rfl) rfl rfl rfl (trivial) (trivial) (⟨⟨1000, _, rfl, rfl, rfl, rfl, .inl rfl⟩, trivial⟩) (trivial) rfl) rfl <| .x (aZ (U := []) [(500, 500), (501, 1000)] [] (oV a fp (by omega) (by have := rV; omega)) Tryz.func82 (by kernel_rfl) rfl rfl rfl (⟨⟨_, rfl, rfl, rfl⟩, ⟨_, rfl, rfl, rfl⟩, trivial⟩) (⟨⟨_, _, rfl, rfl, rfl, rfl, nf, rfl⟩, ⟨_, _, rfl, rfl, rfl, rfl, nf, rfl⟩, trivial⟩) (trivial) (⟨nf, nf, trivial⟩) rfl) rfl <| .x (gZ rfl rfl rfl) rfl <| .nil <| .cond_true rfl (decide_eq_true (by omega)) <| .region <| .m rfl rfl <| .y (aZ (U := [(1008, some ⟨.aggI (dg (fp)), 3, true⟩)]) [] [(1008, 1000)] (P_ev) Tryz.func85 (by kernel_rfl) rfl rfl rfl (trivial) (trivial) (⟨⟨1000, _, rfl, rfl, rfl, rfl, .inl rfl⟩, trivial⟩) (trivial) rfl) rfl <| .y (aZ (U := [(1016, some ⟨.aggI (dg (a - fp)), 3, true⟩)]) [(500, 500), (501, 1008)] [(1016, 1000)] (gS a fp (by omega) (by omega) (by have := rV; omega)) Tryz.func84 (by kernel_rfl) rfl rfl rfl (⟨⟨_, rfl, rfl, rfl⟩, ⟨_, rfl, rfl, rfl⟩, trivial⟩) (⟨⟨_, _, rfl, rfl, rfl, rfl, nf, rfl⟩, ⟨_, _, rfl, rfl, rfl, rfl, nf, rfl⟩, trivial⟩) (⟨⟨1000, _, rfl, rfl, rfl, rfl, .inl rfl⟩, trivial⟩) (⟨nf, nf, trivial⟩) rfl) rfl <| .s rfl rfl <| .nil <| .r <| .m rfl rfl <| .s rfl rfl <| .nil <| Ev.weak (st2 := ⟨[(2, .sl 1000 0 (dl (a % fp)) 1)], [(1000, some ⟨.aggI (dg (a % fp)), 3, true⟩)], 1008⟩) (StLe.mk [(1000, 1016)] rfl rfl ⟨⟨_, rfl, by (show AV.sl 1000 0 (dl (a - fp)) 1 = _; rw [uU rfl h2 h]), rfl⟩, trivial⟩ ⟨⟨_, _, rfl, rfl, by (show AV.aggI (dg (a - fp)) = _; rw [uU rfl h2 h]), rfl, id, rfl⟩, trivial⟩) <| .ret ?_
  exact yZ rfl (.inl rfl) rfl rfl ⟨rfl, trivial⟩
 ·simp only [ne_eq, beq_eq_false_iff_ne] at hg10
  refine .no ⟨_, rfl, rfl⟩ rfl <| .no ⟨_, rfl, rfl⟩ rfl <| .no ⟨_, rfl, rfl⟩ rfl <| .no ⟨_, rfl, rfl⟩ rfl <| .q (aY rfl rfl rfl) ⟨_, rfl, rfl⟩ rfl <| .x (aY rfl rfl rfl) rfl <| .nil <| .cond_false rfl rfl <| .exit <| .seq <| .r <| .m rfl rfl <| .y (aZ (U := [(1000, some ⟨.aggI (dg (fp)), 3, true⟩)]) [] [(1000, 1000)] (P_ev) Tryz.func85 (by kernel_rfl) rfl rfl rfl (trivial) (trivial) (⟨⟨1000, _, rfl, rfl, rfl, rfl, .inl rfl⟩, trivial⟩) (trivial) rfl) rfl <| .x (aZ (U := []) [(500, 500), (501, 1000)] [] (oV a fp (by omega) (by have := rV; omega)) Tryz.func82 (by kernel_rfl) rfl rfl rfl (⟨⟨_, rfl, rfl, rfl⟩, ⟨_, rfl, rfl, rfl⟩, trivial⟩) (⟨⟨_, _, rfl, rfl, rfl, rfl, nf, rfl⟩, ⟨_, _, rfl, rfl, rfl, rfl, nf, rfl⟩, trivial⟩) (trivial) (⟨nf, nf, trivial⟩) rfl) rfl <| .x (gZ rfl rfl rfl) rfl <| .nil <| .cond_true rfl (decide_eq_true (by omega)) <| .region <| .m rfl rfl <| .y (aZ (U := [(1008, some ⟨.aggI (dg (fp)), 3, true⟩)]) [] [(1008, 1000)] (P_ev) Tryz.func85 (by kernel_rfl) rfl rfl rfl (trivial) (trivial) (⟨⟨1000, _, rfl, rfl, rfl, rfl, .inl rfl⟩, trivial⟩) (trivial) rfl) rfl <| .y (aZ (U := [(1016, some ⟨.aggI (dg (a - fp)), 3, true⟩)]) [(500, 500), (501, 1008)] [(1016, 1000)] (gS a fp (by omega) (by omega) (by have := rV; omega)) Tryz.func84 (by kernel_rfl) rfl rfl rfl (⟨⟨_, rfl, rfl, rfl⟩, ⟨_, rfl, rfl, rfl⟩, trivial⟩) (⟨⟨_, _, rfl, rfl, rfl, rfl, nf, rfl⟩, ⟨_, _, rfl, rfl, rfl, rfl, nf, rfl⟩, trivial⟩) (⟨⟨1000, _, rfl, rfl, rfl, rfl, .inl rfl⟩, trivial⟩) (⟨nf, nf, trivial⟩) rfl) rfl <| .s rfl rfl <| .nil <| .r <| .m rfl rfl <| .s rfl rfl <| .nil <| Ev.weak (st2 := ⟨[(2, .sl 1000 0 (dl (a % fp)) 1)], [(1000, some ⟨.aggI (dg (a % fp)), 3, true⟩)], 1008⟩) (StLe.mk [(1000, 1016)] rfl rfl ⟨⟨_, rfl, by (show AV.sl 1000 0 (dl (a - fp)) 1 = _; rw [uU rfl h2 h]), rfl⟩, trivial⟩ ⟨⟨_, _, rfl, rfl, by (show AV.aggI (dg (a - fp)) = _; rw [uU rfl h2 h]), rfl, id, rfl⟩, trivial⟩) <| .ret ?_
  exact yZ rfl (.inl rfl) rfl rfl ⟨rfl, trivial⟩
set_option maxHeartbeats 4000000 in
set_option maxRecDepth 100000 in
theorem cut_big (a : Nat) (h : 2 ^ 255 ≤ a) (hd : dl a ≤ 100) : kZ Tryz.prog 83 [.sl 500 0 (dl a) 1] [(500, some ⟨.aggI (dg a), 3, false⟩)] (.sl 1000 0 (dl (a % fp)) 1) [(1000, some ⟨.aggI (dg (a % fp)), 3, true⟩)] := by
 refine mt (nt := 32) Tryz.func83 rfl rfl rfl <| .r <| .s rfl rfl <| .nil <| .seq <| .block <| Ev.loop (ι := Option { v : Nat // v % fp = a % fp ∧ dl v ≤ 100 }) (fun q => (match q with | none => ⟨[(0, .sl 500 0 (dl a) 1)], [(500, some ⟨.aggI (dg a), 3, false⟩)], 1008⟩ | some v => ⟨[(0, .sl 1000 0 (dl v.1) 1)], [(1000, some ⟨.aggI (dg v.1), 3, true⟩)], 1008⟩)) (fun q => match q with | none => a + 1 | some v => v.1) none (StLe.mk [] rfl rfl ⟨⟨_, rfl, by first | rfl | (simp only [AV.ren]; congr 1; omega), rfl⟩, trivial⟩ ⟨⟨_, _, rfl, rfl, rfl, rfl, id, rfl⟩, trivial⟩) ?_
 rintro (_ | ⟨v, hv, hd⟩)
 ·dsimp only
  have hdk : 15 < dl a → (dg a).getD 15 0 = (dk a 15 : Int) := fun h => aW _ _ _ h
  have hlg := dX a
  have hcm := cmpF a fp
  have hb1 : 2 ^ 255 ≤ a → 16 ≤ dl a := dl_big
  have hb2 : a < 2 ^ 255 → dl a ≤ 16 := eO
  have hb3 : a < 2 ^ 255 → dk a 15 < 32768 := top_lt
  have hb4 : 2 ^ 255 ≤ a → dl a ≤ 16 → 32768 ≤ dk a 15 := top_ge
  have hq1 := cX (Nat.div_le_self a (2 ^ 255))
  have hq2 := cX (Nat.mod_le a (2 ^ 255))
  have hq3 : dl (a / 2 ^ 255 * 19) ≤ 101 := uJ (n := 100) (m := 1) (by omega) (qX (by decide))
  have h19 : dl 19 ≤ 1 := qX (by decide)
  have hfp := rV
  refine .seq <| .r <| .m rfl rfl <| .x (rZ Tryz.underlying38 rfl) rfl <| .x (gZ rfl rfl rfl) rfl <| .m rfl rfl <| .split (fun hg6 => ?_) (fun hg6 => ?_)
  ·simp only [decide_eq_true_eq] at hg6
   refine .no ⟨_, rfl, rfl⟩ rfl <| .no ⟨_, rfl, rfl⟩ rfl <| .no ⟨_, rfl, rfl⟩ rfl <| .no ⟨_, rfl, rfl⟩ rfl <| .noU ⟨_, rfl, rfl⟩ rfl <| .noU ⟨_, rfl, rfl⟩ rfl <| .noU ⟨_, rfl, rfl⟩ rfl <| .noU ⟨_, rfl, rfl⟩ rfl <| .no ⟨_, rfl, rfl⟩ rfl <| .x (sY rfl rfl rfl) rfl <| .nil <| .cond_true rfl rfl <| .skip <| .block <| .region <| .m rfl rfl <| .y (aZ (U := [(1008, some ⟨.aggI (dg (a % 2 ^ 255)), 3, true⟩)]) [(500, 500)] [(1008, 1000)] (uR a (by omega) (by omega)) Tryz.func86 (by kernel_rfl) rfl rfl rfl (⟨⟨_, rfl, rfl, rfl⟩, trivial⟩) (⟨⟨_, _, rfl, rfl, rfl, rfl, nf, rfl⟩, trivial⟩) (⟨⟨1000, _, rfl, rfl, rfl, rfl, .inl rfl⟩, trivial⟩) (⟨nf, trivial⟩) rfl) rfl <| .m rfl rfl <| .y (aZ (U := [(1016, some ⟨.aggI (dg (a / 2 ^ 255)), 3, true⟩)]) [(500, 500)] [(1016, 1000)] (qT a 255 (by omega) (by omega)) Tryz.func89 (by kernel_rfl) rfl rfl rfl (⟨⟨_, rfl, rfl, rfl⟩, ⟨_, rfl, rfl, rfl⟩, trivial⟩) (⟨⟨_, _, rfl, rfl, rfl, rfl, nf, rfl⟩, trivial⟩) (⟨⟨1000, _, rfl, rfl, rfl, rfl, .inl rfl⟩, trivial⟩) (⟨nf, trivial⟩) rfl) rfl <| .y (aZ (U := [(1024, some ⟨.aggI (dg (19)), 3, true⟩)]) [] [(1024, 1000)] (kX 19 (by omega)) Tryz.func42 (by kernel_rfl) rfl rfl rfl (⟨⟨_, rfl, rfl, rfl⟩, trivial⟩) (trivial) (⟨⟨1000, _, rfl, rfl, rfl, rfl, .inl rfl⟩, trivial⟩) (trivial) rfl) rfl <| .y (aZ (U := [(1032, some ⟨.aggI (dg (a / 2 ^ 255 * 19)), 3, true⟩)]) [(500, 1016), (501, 1024)] [(1032, 1000)] (fQ (a / 2 ^ 255) 19 (by omega) (by omega)) Tryz.func73 (by kernel_rfl) rfl rfl rfl (⟨⟨_, rfl, rfl, rfl⟩, ⟨_, rfl, rfl, rfl⟩, trivial⟩) (⟨⟨_, _, rfl, rfl, rfl, rfl, nf, rfl⟩, ⟨_, _, rfl, rfl, rfl, rfl, nf, rfl⟩, trivial⟩) (⟨⟨1000, _, rfl, rfl, rfl, rfl, .inl rfl⟩, trivial⟩) (⟨nf, nf, trivial⟩) rfl) rfl <| .y (aZ (U := [(1040, some ⟨.aggI (dg (aU a)), 3, true⟩)]) [(500, 1008), (501, 1032)] [(1040, 1000)] (wU (a % 2 ^ 255) (a / 2 ^ 255 * 19) (by omega) (by omega)) Tryz.func72 (by kernel_rfl) rfl rfl rfl (⟨⟨_, rfl, rfl, rfl⟩, ⟨_, rfl, rfl, rfl⟩, trivial⟩) (⟨⟨_, _, rfl, rfl, rfl, rfl, nf, rfl⟩, ⟨_, _, rfl, rfl, rfl, rfl, nf, rfl⟩, trivial⟩) (⟨⟨1000, _, rfl, rfl, rfl, rfl, .inl rfl⟩, trivial⟩) (⟨nf, nf, trivial⟩) rfl) rfl <| .as (.sl 1040 0 (dl (aU a)) 1) rfl <| .s rfl rfl <| .nil ?_
   exact ⟨some ⟨aU a, (tO a), Nat.le_trans (cX (qQ a)) (by omega)⟩, (by show aU a < _; exact Nat.lt_succ_of_le (qQ a)), StLe.mk [(1000, 1040)] rfl rfl ⟨⟨_, rfl, by rfl, rfl⟩, trivial⟩ ⟨⟨_, _, rfl, rfl, rfl, rfl, id, rfl⟩, trivial⟩⟩
  ·simp only [decide_eq_false_iff_not] at hg6
   refine .q (iX rfl) ⟨_, rfl, rfl⟩ rfl <| .q (rZ Tryz.underlying38 rfl) ⟨_, rfl, rfl⟩ rfl <| .q (gZ rfl rfl rfl) ⟨_, rfl, rfl⟩ rfl <| .q (iX rfl) ⟨_, rfl, rfl⟩ rfl <| .know (b' := true) (decide_eq_true (by omega)) <| .q (iX rfl) ⟨_, rfl, rfl⟩ rfl <| .q (cY Tryz.underlying38 inf3.sz rfl rfl rfl (by simp only [AV.len]; omega)) ⟨_, rfl, rfl⟩ rfl <| .q (fZ Tryz.underlying3 rfl rfl rfl rfl (by show 15 < (dg a).length; omega)) ⟨_, rfl, rfl⟩ rfl <| .as (.i64 ((dk a 15 : Nat) : Int)) (congrArg AV.i64 (hdk (by omega))) <| .q (gZ rfl rfl rfl) ⟨_, rfl, rfl⟩ rfl <| .q (sY rfl rfl rfl) ⟨_, rfl, rfl⟩ rfl <| .x (aY rfl rfl rfl) rfl <| .nil <| .cond_true rfl (by exact decide_eq_true (by omega)) <| .skip <| .block <| .region <| .m rfl rfl <| .y (aZ (U := [(1008, some ⟨.aggI (dg (a % 2 ^ 255)), 3, true⟩)]) [(500, 500)] [(1008, 1000)] (uR a (by omega) (by omega)) Tryz.func86 (by kernel_rfl) rfl rfl rfl (⟨⟨_, rfl, rfl, rfl⟩, trivial⟩) (⟨⟨_, _, rfl, rfl, rfl, rfl, nf, rfl⟩, trivial⟩) (⟨⟨1000, _, rfl, rfl, rfl, rfl, .inl rfl⟩, trivial⟩) (⟨nf, trivial⟩) rfl) rfl <| .m rfl rfl <| .y (aZ (U := [(1016, some ⟨.aggI (dg (a / 2 ^ 255)), 3, true⟩)]) [(500, 500)] [(1016, 1000)] (qT a 255 (by omega) (by omega)) Tryz.func89 (by kernel_rfl) rfl rfl rfl (⟨⟨_, rfl, rfl, rfl⟩, ⟨_, rfl, rfl, rfl⟩, trivial⟩) (⟨⟨_, _, rfl, rfl, rfl, rfl, nf, rfl⟩, trivial⟩) (⟨⟨1000, _, rfl, rfl, rfl, rfl, .inl rfl⟩, trivial⟩) (⟨nf, trivial⟩) rfl) rfl <| .y (aZ (U := [(1024, some ⟨.aggI (dg (19)), 3, true⟩)]) [] [(1024, 1000)] (kX 19 (by omega)) Tryz.func42 (by kernel_rfl) rfl rfl rfl (⟨⟨_, rfl, rfl, rfl⟩, trivial⟩) (trivial) (⟨⟨1000, _, rfl, rfl, rfl, rfl, .inl rfl⟩, trivial⟩) (trivial) rfl) rfl <| .y (aZ (U := [(1032, some ⟨.aggI (dg (a / 2 ^ 255 * 19)), 3, true⟩)]) [(500, 1016), (501, 1024)] [(1032, 1000)] (fQ (a / 2 ^ 255) 19 (by omega) (by omega)) Tryz.func73 (by kernel_rfl) rfl rfl rfl (⟨⟨_, rfl, rfl, rfl⟩, ⟨_, rfl, rfl, rfl⟩, trivial⟩) (⟨⟨_, _, rfl, rfl, rfl, rfl, nf, rfl⟩, ⟨_, _, rfl, rfl, rfl, rfl, nf, rfl⟩, trivial⟩) (⟨⟨1000, _, rfl, rfl, rfl, rfl, .inl rfl⟩, trivial⟩) (⟨nf, nf, trivial⟩) rfl) rfl <| .y (aZ (U := [(1040, some ⟨.aggI (dg (aU a)), 3, true⟩)]) [(500, 1008), (501, 1032)] [(1040, 1000)] (wU (a % 2 ^ 255) (a / 2 ^ 255 * 19) (by omega) (by omega)) Tryz.func72 (by kernel_rfl) rfl rfl rfl (⟨⟨_, rfl, rfl, rfl⟩, ⟨_, rfl, rfl, rfl⟩, trivial⟩) (⟨⟨_, _, rfl, rfl, rfl, rfl, nf, rfl⟩, ⟨_, _, rfl, rfl, rfl, rfl, nf, rfl⟩, trivial⟩) (⟨⟨1000, _, rfl, rfl, rfl, rfl, .inl rfl⟩, trivial⟩) (⟨nf, nf, trivial⟩) rfl) rfl <| .as (.sl 1040 0 (dl (aU a)) 1) rfl <| .s rfl rfl <| .nil ?_
   exact ⟨some ⟨aU a, (tO a), Nat.le_trans (cX (qQ a)) (by omega)⟩, (by show aU a < _; exact Nat.lt_succ_of_le (qQ a)), StLe.mk [(1000, 1040)] rfl rfl ⟨⟨_, rfl, by rfl, rfl⟩, trivial⟩ ⟨⟨_, _, rfl, rfl, rfl, rfl, id, rfl⟩, trivial⟩⟩
 ·dsimp only
  have hdk : 15 < dl v → (dg v).getD 15 0 = (dk v 15 : Int) := fun h => aW _ _ _ h
  have hlg := dX v
  have hcm := cmpF v fp
  have hb1 : 2 ^ 255 ≤ v → 16 ≤ dl v := dl_big
  have hb2 : v < 2 ^ 255 → dl v ≤ 16 := eO
  have hb3 : v < 2 ^ 255 → dk v 15 < 32768 := top_lt
  have hb4 : 2 ^ 255 ≤ v → dl v ≤ 16 → 32768 ≤ dk v 15 := top_ge
  have hq1 := cX (Nat.div_le_self v (2 ^ 255))
  have hq2 := cX (Nat.mod_le v (2 ^ 255))
  have hq3 : dl (v / 2 ^ 255 * 19) ≤ 101 := uJ (n := 100) (m := 1) (by omega) (qX (by decide))
  have h19 : dl 19 ≤ 1 := qX (by decide)
  have hfp := rV
  refine .seq <| .r <| .m rfl rfl <| .x (rZ Tryz.underlying38 rfl) rfl <| .x (gZ rfl rfl rfl) rfl <| .m rfl rfl <| .split (fun hg6 => ?_) (fun hg6 => ?_)
  ·simp only [decide_eq_true_eq] at hg6
   refine .no ⟨_, rfl, rfl⟩ rfl <| .no ⟨_, rfl, rfl⟩ rfl <| .no ⟨_, rfl, rfl⟩ rfl <| .no ⟨_, rfl, rfl⟩ rfl <| .noU ⟨_, rfl, rfl⟩ rfl <| .noU ⟨_, rfl, rfl⟩ rfl <| .noU ⟨_, rfl, rfl⟩ rfl <| .noU ⟨_, rfl, rfl⟩ rfl <| .no ⟨_, rfl, rfl⟩ rfl <| .x (sY rfl rfl rfl) rfl <| .nil <| .cond_true rfl rfl <| .skip <| .block <| .region <| .m rfl rfl <| .y (aZ (U := [(1008, some ⟨.aggI (dg (v % 2 ^ 255)), 3, true⟩)]) [(500, 1000)] [(1008, 1000)] (uR v (by omega) (by omega)) Tryz.func86 (by kernel_rfl) rfl rfl rfl (⟨⟨_, rfl, rfl, rfl⟩, trivial⟩) (⟨⟨_, _, rfl, rfl, rfl, rfl, nf, rfl⟩, trivial⟩) (⟨⟨1000, _, rfl, rfl, rfl, rfl, .inl rfl⟩, trivial⟩) (⟨nf, trivial⟩) rfl) rfl <| .m rfl rfl <| .y (aZ (U := [(1016, some ⟨.aggI (dg (v / 2 ^ 255)), 3, true⟩)]) [(500, 1000)] [(1016, 1000)] (qT v 255 (by omega) (by omega)) Tryz.func89 (by kernel_rfl) rfl rfl rfl (⟨⟨_, rfl, rfl, rfl⟩, ⟨_, rfl, rfl, rfl⟩, trivial⟩) (⟨⟨_, _, rfl, rfl, rfl, rfl, nf, rfl⟩, trivial⟩) (⟨⟨1000, _, rfl, rfl, rfl, rfl, .inl rfl⟩, trivial⟩) (⟨nf, trivial⟩) rfl) rfl <| .y (aZ (U := [(1024, some ⟨.aggI (dg (19)), 3, true⟩)]) [] [(1024, 1000)] (kX 19 (by omega)) Tryz.func42 (by kernel_rfl) rfl rfl rfl (⟨⟨_, rfl, rfl, rfl⟩, trivial⟩) (trivial) (⟨⟨1000, _, rfl, rfl, rfl, rfl, .inl rfl⟩, trivial⟩) (trivial) rfl) rfl <| .y (aZ (U := [(1032, some ⟨.aggI (dg (v / 2 ^ 255 * 19)), 3, true⟩)]) [(500, 1016), (501, 1024)] [(1032, 1000)] (fQ (v / 2 ^ 255) 19 (by omega) (by omega)) Tryz.func73 (by kernel_rfl) rfl rfl rfl (⟨⟨_, rfl, rfl, rfl⟩, ⟨_, rfl, rfl, rfl⟩, trivial⟩) (⟨⟨_, _, rfl, rfl, rfl, rfl, nf, rfl⟩, ⟨_, _, rfl, rfl, rfl, rfl, nf, rfl⟩, trivial⟩) (⟨⟨1000, _, rfl, rfl, rfl, rfl, .inl rfl⟩, trivial⟩) (⟨nf, nf, trivial⟩) rfl) rfl <| .y (aZ (U := [(1040, some ⟨.aggI (dg (aU v)), 3, true⟩)]) [(500, 1008), (501, 1032)] [(1040, 1000)] (wU (v % 2 ^ 255) (v / 2 ^ 255 * 19) (by omega) (by omega)) Tryz.func72 (by kernel_rfl) rfl rfl rfl (⟨⟨_, rfl, rfl, rfl⟩, ⟨_, rfl, rfl, rfl⟩, trivial⟩) (⟨⟨_, _, rfl, rfl, rfl, rfl, nf, rfl⟩, ⟨_, _, rfl, rfl, rfl, rfl, nf, rfl⟩, trivial⟩) (⟨⟨1000, _, rfl, rfl, rfl, rfl, .inl rfl⟩, trivial⟩) (⟨nf, nf, trivial⟩) rfl) rfl <| .as (.sl 1040 0 (dl (aU v)) 1) rfl <| .s rfl rfl <| .nil ?_
   exact ⟨some ⟨aU v, (tO v).trans hv, Nat.le_trans (cX (qQ v)) (by omega)⟩, (by show aU v < _; exact foldF_lt (by omega)), StLe.mk [(1000, 1040)] rfl rfl ⟨⟨_, rfl, by rfl, rfl⟩, trivial⟩ ⟨⟨_, _, rfl, rfl, rfl, rfl, id, rfl⟩, trivial⟩⟩
  ·simp only [decide_eq_false_iff_not] at hg6
   refine .q (iX rfl) ⟨_, rfl, rfl⟩ rfl <| .q (rZ Tryz.underlying38 rfl) ⟨_, rfl, rfl⟩ rfl <| .q (gZ rfl rfl rfl) ⟨_, rfl, rfl⟩ rfl <| .q (iX rfl) ⟨_, rfl, rfl⟩ rfl <| .split (fun hg10 => ?_) (fun hg10 => ?_)
   ·simp only [beq_iff_eq] at hg10
    refine .q (iX rfl) ⟨_, rfl, rfl⟩ rfl <| .q (cY Tryz.underlying38 inf3.sz rfl rfl rfl (by simp only [AV.len]; omega)) ⟨_, rfl, rfl⟩ rfl <| .q (fZ Tryz.underlying3 rfl rfl rfl rfl (by show 15 < (dg v).length; omega)) ⟨_, rfl, rfl⟩ rfl <| .as (.i64 ((dk v 15 : Nat) : Int)) (congrArg AV.i64 (hdk (by omega))) <| .q (gZ rfl rfl rfl) ⟨_, rfl, rfl⟩ rfl <| .q (sY rfl rfl rfl) ⟨_, rfl, rfl⟩ rfl <| .x (aY rfl rfl rfl) rfl <| .nil <| .cond rfl (fun hc16 => ?_) (fun hc16 => ?_)
    ·simp only [decide_eq_true_eq] at hc16
     refine .skip <| .block <| .region <| .m rfl rfl <| .y (aZ (U := [(1008, some ⟨.aggI (dg (v % 2 ^ 255)), 3, true⟩)]) [(500, 1000)] [(1008, 1000)] (uR v (by omega) (by omega)) Tryz.func86 (by kernel_rfl) rfl rfl rfl (⟨⟨_, rfl, rfl, rfl⟩, trivial⟩) (⟨⟨_, _, rfl, rfl, rfl, rfl, nf, rfl⟩, trivial⟩) (⟨⟨1000, _, rfl, rfl, rfl, rfl, .inl rfl⟩, trivial⟩) (⟨nf, trivial⟩) rfl) rfl <| .m rfl rfl <| .y (aZ (U := [(1016, some ⟨.aggI (dg (v / 2 ^ 255)), 3, true⟩)]) [(500, 1000)] [(1016, 1000)] (qT v 255 (by omega) (by omega)) Tryz.func89 (by kernel_rfl) rfl rfl rfl (⟨⟨_, rfl, rfl, rfl⟩, ⟨_, rfl, rfl, rfl⟩, trivial⟩) (⟨⟨_, _, rfl, rfl, rfl, rfl, nf, rfl⟩, trivial⟩) (⟨⟨1000, _, rfl, rfl, rfl, rfl, .inl rfl⟩, trivial⟩) (⟨nf, trivial⟩) rfl) rfl <| .y (aZ (U := [(1024, some ⟨.aggI (dg (19)), 3, true⟩)]) [] [(1024, 1000)] (kX 19 (by omega)) Tryz.func42 (by kernel_rfl) rfl rfl rfl (⟨⟨_, rfl, rfl, rfl⟩, trivial⟩) (trivial) (⟨⟨1000, _, rfl, rfl, rfl, rfl, .inl rfl⟩, trivial⟩) (trivial) rfl) rfl <| .y (aZ (U := [(1032, some ⟨.aggI (dg (v / 2 ^ 255 * 19)), 3, true⟩)]) [(500, 1016), (501, 1024)] [(1032, 1000)] (fQ (v / 2 ^ 255) 19 (by omega) (by omega)) Tryz.func73 (by kernel_rfl) rfl rfl rfl (⟨⟨_, rfl, rfl, rfl⟩, ⟨_, rfl, rfl, rfl⟩, trivial⟩) (⟨⟨_, _, rfl, rfl, rfl, rfl, nf, rfl⟩, ⟨_, _, rfl, rfl, rfl, rfl, nf, rfl⟩, trivial⟩) (⟨⟨1000, _, rfl, rfl, rfl, rfl, .inl rfl⟩, trivial⟩) (⟨nf, nf, trivial⟩) rfl) rfl <| .y (aZ (U := [(1040, some ⟨.aggI (dg (aU v)), 3, true⟩)]) [(500, 1008), (501, 1032)] [(1040, 1000)] (wU (v % 2 ^ 255) (v / 2 ^ 255 * 19) (by omega) (by omega)) Tryz.func72 (by kernel_rfl) rfl rfl rfl (⟨⟨_, rfl, rfl, rfl⟩, ⟨_, rfl, rfl, rfl⟩, trivial⟩) (⟨⟨_, _, rfl, rfl, rfl, rfl, nf, rfl⟩, ⟨_, _, rfl, rfl, rfl, rfl, nf, rfl⟩, trivial⟩) (⟨⟨1000, _, rfl, rfl, rfl, rfl, .inl rfl⟩, trivial⟩) (⟨nf, nf, trivial⟩) rfl) rfl <| .as (.sl 1040 0 (dl (aU v)) 1) rfl <| .s rfl rfl <| .nil ?_
     exact ⟨some ⟨aU v, (tO v).trans hv, Nat.le_trans (cX (qQ v)) (by omega)⟩, (by show aU v < _; exact foldF_lt (by omega)), StLe.mk [(1000, 1040)] rfl rfl ⟨⟨_, rfl, by rfl, rfl⟩, trivial⟩ ⟨⟨_, _, rfl, rfl, rfl, rfl, id, rfl⟩, trivial⟩⟩
    ·simp only [decide_eq_false_iff_not] at hc16
     refine .exit <| .seq <| .r <| .m rfl rfl <| .y (aZ (U := [(1008, some ⟨.aggI (dg (fp)), 3, true⟩)]) [] [(1008, 1000)] (P_ev) Tryz.func85 (by kernel_rfl) rfl rfl rfl (trivial) (trivial) (⟨⟨1000, _, rfl, rfl, rfl, rfl, .inl rfl⟩, trivial⟩) (trivial) rfl) rfl <| .x (aZ (U := []) [(500, 1000), (501, 1008)] [] (oV v fp (by omega) (by omega)) Tryz.func82 (by kernel_rfl) rfl rfl rfl (⟨⟨_, rfl, rfl, rfl⟩, ⟨_, rfl, rfl, rfl⟩, trivial⟩) (⟨⟨_, _, rfl, rfl, rfl, rfl, nf, rfl⟩, ⟨_, _, rfl, rfl, rfl, rfl, nf, rfl⟩, trivial⟩) (trivial) (⟨nf, nf, trivial⟩) rfl) rfl <| .x (gZ rfl rfl rfl) rfl <| .nil <| .cond rfl (fun hc27 => ?_) (fun hc27 => ?_)
     ·simp only [decide_eq_true_eq] at hc27
      refine .region <| .m rfl rfl <| .y (aZ (U := [(1016, some ⟨.aggI (dg (fp)), 3, true⟩)]) [] [(1016, 1000)] (P_ev) Tryz.func85 (by kernel_rfl) rfl rfl rfl (trivial) (trivial) (⟨⟨1000, _, rfl, rfl, rfl, rfl, .inl rfl⟩, trivial⟩) (trivial) rfl) rfl <| .y (aZ (U := [(1024, some ⟨.aggI (dg (v - fp)), 3, true⟩)]) [(500, 1000), (501, 1016)] [(1024, 1000)] (gS v fp (by omega) (by omega) (by omega)) Tryz.func84 (by kernel_rfl) rfl rfl rfl (⟨⟨_, rfl, rfl, rfl⟩, ⟨_, rfl, rfl, rfl⟩, trivial⟩) (⟨⟨_, _, rfl, rfl, rfl, rfl, nf, rfl⟩, ⟨_, _, rfl, rfl, rfl, rfl, nf, rfl⟩, trivial⟩) (⟨⟨1000, _, rfl, rfl, rfl, rfl, .inl rfl⟩, trivial⟩) (⟨nf, nf, trivial⟩) rfl) rfl <| .s rfl rfl <| .nil <| .r <| .m rfl rfl <| .s rfl rfl <| .nil ?_
      first
       | (refine Ev.weak (st2 := ⟨[(2, .sl 1000 0 (dl (a % fp)) 1)], [(1000, some ⟨.aggI (dg (a % fp)), 3, true⟩)], 1008⟩) (StLe.mk [(1000, 1024)] rfl rfl ⟨⟨_, rfl, by (show AV.sl 1000 0 (dl (v - fp)) 1 = _; rw [uU hv (by omega) (by omega)]), rfl⟩, trivial⟩ ⟨⟨_, _, rfl, rfl, by (show AV.aggI (dg (v - fp)) = _; rw [uU hv (by omega) (by omega)]), rfl, id, rfl⟩, trivial⟩) ?_)
       | (refine Ev.weak (st2 := ⟨[(2, .sl 1000 0 (dl (a % fp)) 1)], [(1000, some ⟨.aggI (dg (a % fp)), 3, true⟩)], 1008⟩) (StLe.mk [(1000, 1000)] rfl rfl ⟨⟨_, rfl, by (show AV.sl 1000 0 (dl (v)) 1 = _; rw [← xP hv (by omega)]), rfl⟩, trivial⟩ ⟨⟨_, _, rfl, rfl, by (show AV.aggI (dg (v)) = _; rw [← xP hv (by omega)]), rfl, id, rfl⟩, trivial⟩) ?_)
      refine .ret ?_
      exact yZ rfl (.inl rfl) rfl rfl ⟨rfl, trivial⟩
     ·simp only [decide_eq_false_iff_not] at hc27
      refine .skip <| .r <| .m rfl rfl <| .s rfl rfl <| .nil ?_
      first
       | (refine Ev.weak (st2 := ⟨[(2, .sl 1000 0 (dl (a % fp)) 1)], [(1000, some ⟨.aggI (dg (a % fp)), 3, true⟩)], 1008⟩) (StLe.mk [(1000, 1024)] rfl rfl ⟨⟨_, rfl, by (show AV.sl 1000 0 (dl (v - fp)) 1 = _; rw [uU hv (by omega) (by omega)]), rfl⟩, trivial⟩ ⟨⟨_, _, rfl, rfl, by (show AV.aggI (dg (v - fp)) = _; rw [uU hv (by omega) (by omega)]), rfl, id, rfl⟩, trivial⟩) ?_)
       | (refine Ev.weak (st2 := ⟨[(2, .sl 1000 0 (dl (a % fp)) 1)], [(1000, some ⟨.aggI (dg (a % fp)), 3, true⟩)], 1008⟩) (StLe.mk [(1000, 1000)] rfl rfl ⟨⟨_, rfl, by (show AV.sl 1000 0 (dl (v)) 1 = _; rw [← xP hv (by omega)]), rfl⟩, trivial⟩ ⟨⟨_, _, rfl, rfl, by (show AV.aggI (dg (v)) = _; rw [← xP hv (by omega)]), rfl, id, rfl⟩, trivial⟩) ?_)
      refine .ret ?_
      exact yZ rfl (.inl rfl) rfl rfl ⟨rfl, trivial⟩
   ·simp only [ne_eq, beq_eq_false_iff_ne] at hg10
    refine .no ⟨_, rfl, rfl⟩ rfl <| .no ⟨_, rfl, rfl⟩ rfl <| .no ⟨_, rfl, rfl⟩ rfl <| .no ⟨_, rfl, rfl⟩ rfl <| .q (aY rfl rfl rfl) ⟨_, rfl, rfl⟩ rfl <| .x (aY rfl rfl rfl) rfl <| .nil <| .cond_false rfl rfl <| .exit <| .seq <| .r <| .m rfl rfl <| .y (aZ (U := [(1008, some ⟨.aggI (dg (fp)), 3, true⟩)]) [] [(1008, 1000)] (P_ev) Tryz.func85 (by kernel_rfl) rfl rfl rfl (trivial) (trivial) (⟨⟨1000, _, rfl, rfl, rfl, rfl, .inl rfl⟩, trivial⟩) (trivial) rfl) rfl <| .x (aZ (U := []) [(500, 1000), (501, 1008)] [] (oV v fp (by omega) (by omega)) Tryz.func82 (by kernel_rfl) rfl rfl rfl (⟨⟨_, rfl, rfl, rfl⟩, ⟨_, rfl, rfl, rfl⟩, trivial⟩) (⟨⟨_, _, rfl, rfl, rfl, rfl, nf, rfl⟩, ⟨_, _, rfl, rfl, rfl, rfl, nf, rfl⟩, trivial⟩) (trivial) (⟨nf, nf, trivial⟩) rfl) rfl <| .x (gZ rfl rfl rfl) rfl <| .nil <| .cond rfl (fun hc27 => ?_) (fun hc27 => ?_)
    ·simp only [decide_eq_true_eq] at hc27
     refine .region <| .m rfl rfl <| .y (aZ (U := [(1016, some ⟨.aggI (dg (fp)), 3, true⟩)]) [] [(1016, 1000)] (P_ev) Tryz.func85 (by kernel_rfl) rfl rfl rfl (trivial) (trivial) (⟨⟨1000, _, rfl, rfl, rfl, rfl, .inl rfl⟩, trivial⟩) (trivial) rfl) rfl <| .y (aZ (U := [(1024, some ⟨.aggI (dg (v - fp)), 3, true⟩)]) [(500, 1000), (501, 1016)] [(1024, 1000)] (gS v fp (by omega) (by omega) (by omega)) Tryz.func84 (by kernel_rfl) rfl rfl rfl (⟨⟨_, rfl, rfl, rfl⟩, ⟨_, rfl, rfl, rfl⟩, trivial⟩) (⟨⟨_, _, rfl, rfl, rfl, rfl, nf, rfl⟩, ⟨_, _, rfl, rfl, rfl, rfl, nf, rfl⟩, trivial⟩) (⟨⟨1000, _, rfl, rfl, rfl, rfl, .inl rfl⟩, trivial⟩) (⟨nf, nf, trivial⟩) rfl) rfl <| .s rfl rfl <| .nil <| .r <| .m rfl rfl <| .s rfl rfl <| .nil ?_
     first
      | (refine Ev.weak (st2 := ⟨[(2, .sl 1000 0 (dl (a % fp)) 1)], [(1000, some ⟨.aggI (dg (a % fp)), 3, true⟩)], 1008⟩) (StLe.mk [(1000, 1024)] rfl rfl ⟨⟨_, rfl, by (show AV.sl 1000 0 (dl (v - fp)) 1 = _; rw [uU hv (by omega) (by omega)]), rfl⟩, trivial⟩ ⟨⟨_, _, rfl, rfl, by (show AV.aggI (dg (v - fp)) = _; rw [uU hv (by omega) (by omega)]), rfl, id, rfl⟩, trivial⟩) ?_)
      | (refine Ev.weak (st2 := ⟨[(2, .sl 1000 0 (dl (a % fp)) 1)], [(1000, some ⟨.aggI (dg (a % fp)), 3, true⟩)], 1008⟩) (StLe.mk [(1000, 1000)] rfl rfl ⟨⟨_, rfl, by (show AV.sl 1000 0 (dl (v)) 1 = _; rw [← xP hv (by omega)]), rfl⟩, trivial⟩ ⟨⟨_, _, rfl, rfl, by (show AV.aggI (dg (v)) = _; rw [← xP hv (by omega)]), rfl, id, rfl⟩, trivial⟩) ?_)
     refine .ret ?_
     exact yZ rfl (.inl rfl) rfl rfl ⟨rfl, trivial⟩
    ·simp only [decide_eq_false_iff_not] at hc27
     refine .skip <| .r <| .m rfl rfl <| .s rfl rfl <| .nil ?_
     first
      | (refine Ev.weak (st2 := ⟨[(2, .sl 1000 0 (dl (a % fp)) 1)], [(1000, some ⟨.aggI (dg (a % fp)), 3, true⟩)], 1008⟩) (StLe.mk [(1000, 1024)] rfl rfl ⟨⟨_, rfl, by (show AV.sl 1000 0 (dl (v - fp)) 1 = _; rw [uU hv (by omega) (by omega)]), rfl⟩, trivial⟩ ⟨⟨_, _, rfl, rfl, by (show AV.aggI (dg (v - fp)) = _; rw [uU hv (by omega) (by omega)]), rfl, id, rfl⟩, trivial⟩) ?_)
      | (refine Ev.weak (st2 := ⟨[(2, .sl 1000 0 (dl (a % fp)) 1)], [(1000, some ⟨.aggI (dg (a % fp)), 3, true⟩)], 1008⟩) (StLe.mk [(1000, 1000)] rfl rfl ⟨⟨_, rfl, by (show AV.sl 1000 0 (dl (v)) 1 = _; rw [← xP hv (by omega)]), rfl⟩, trivial⟩ ⟨⟨_, _, rfl, rfl, by (show AV.aggI (dg (v)) = _; rw [← xP hv (by omega)]), rfl, id, rfl⟩, trivial⟩) ?_)
     refine .ret ?_
     exact yZ rfl (.inl rfl) rfl rfl ⟨rfl, trivial⟩
theorem nO (a : Nat) (h : fp ≤ a) (hd : dl a ≤ 100) : kZ Tryz.prog 83 [.sl 500 0 (dl a) 1] [(500, some ⟨.aggI (dg a), 3, false⟩)] (.sl 1000 0 (dl (a % fp)) 1) [(1000, some ⟨.aggI (dg (a % fp)), 3, true⟩)] := by
 by_cases c : a < 2 ^ 255
 ·exact cut_sub a h c
 ·exact cut_big a (by omega) hd
end Go.Proofs.YtcnjekoidgefpaaGreatDoor
namespace Go.Proofs.YtcnjekoidgefpaaGreatDoor
open Go.RowKit
theorem lY {a : Nat} (h : a < fp) : dl a ≤ 16 := eO (Nat.lt_trans h fp_255)
set_option maxHeartbeats 1000000 in
set_option maxRecDepth 100000 in
theorem add05_a (a b : Nat) (ha : a < fp) (hb : b < fp) (h : a + b < fp) : kZ Tryz.prog 45 [.sl 500 0 (dl a) 1, .sl 501 0 (dl b) 1] [(500, some ⟨.aggI (dg a), 3, false⟩), (501, some ⟨.aggI (dg b), 3, false⟩)] (.sl 1000 0 (dl ((a + b) % fp)) 1) [(1000, some ⟨.aggI (dg ((a + b) % fp)), 3, true⟩)] := by
 have hda := lY ha
 have hdb := lY hb
 have hfp := rV
 have hs := vJ (a := a) (b := b) hda hdb
 refine mt (nt := 9) Tryz.func45 rfl rfl rfl <| .r <| .s rfl rfl <| .nil <| .r <| .m rfl rfl <| .m rfl rfl <| .y (aZ (U := [(1000, some ⟨.aggI (dg (a + b)), 3, true⟩)]) [(500, 500), (501, 501)] [(1000, 1000)] (wU a b (by omega) (by omega)) Tryz.func72 (by kernel_rfl) rfl rfl rfl (⟨⟨_, rfl, rfl, rfl⟩, ⟨_, rfl, rfl, rfl⟩, trivial⟩) (⟨⟨_, _, rfl, rfl, rfl, rfl, nf, rfl⟩, ⟨_, _, rfl, rfl, rfl, rfl, nf, rfl⟩, trivial⟩) (⟨⟨1000, _, rfl, rfl, rfl, rfl, .inl rfl⟩, trivial⟩) (⟨nf, nf, trivial⟩) rfl) rfl <| .x (aZ (U := []) [(500, 1000)] [] (yP (a + b) h) Tryz.func83 (by kernel_rfl) rfl rfl rfl (⟨⟨_, rfl, rfl, rfl⟩, trivial⟩) (⟨⟨_, _, rfl, rfl, rfl, rfl, nf, rfl⟩, trivial⟩) (trivial) (⟨nf, trivial⟩) rfl) rfl <| .s rfl rfl <| .nil <| Ev.weak (st2 := ⟨[(4, .sl 1000 0 (dl ((a + b) % fp)) 1)], [(1000, some ⟨.aggI (dg ((a + b) % fp)), 3, true⟩)], 1008⟩) (StLe.mk [(1000, 1000)] rfl rfl ⟨⟨_, rfl, by (show AV.sl 1000 0 (dl (a + b)) 1 = _; rw [Nat.mod_eq_of_lt h]), rfl⟩, trivial⟩ ⟨⟨_, _, rfl, rfl, by (show AV.aggI (dg (a + b)) = _; rw [Nat.mod_eq_of_lt h]), rfl, id, rfl⟩, trivial⟩) <| .ret ?_
 exact yZ rfl (.inl rfl) rfl rfl ⟨rfl, trivial⟩
set_option maxHeartbeats 1000000 in
set_option maxRecDepth 100000 in
theorem add05_b (a b : Nat) (ha : a < fp) (hb : b < fp) (h : fp ≤ a + b) : kZ Tryz.prog 45 [.sl 500 0 (dl a) 1, .sl 501 0 (dl b) 1] [(500, some ⟨.aggI (dg a), 3, false⟩), (501, some ⟨.aggI (dg b), 3, false⟩)] (.sl 1000 0 (dl ((a + b) % fp)) 1) [(1000, some ⟨.aggI (dg ((a + b) % fp)), 3, true⟩)] := by
 have hda := lY ha
 have hdb := lY hb
 have hfp := rV
 have hs := vJ (a := a) (b := b) hda hdb
 refine mt (nt := 9) Tryz.func45 rfl rfl rfl <| .r <| .s rfl rfl <| .nil <| .r <| .m rfl rfl <| .m rfl rfl <| .y (aZ (U := [(1000, some ⟨.aggI (dg (a + b)), 3, true⟩)]) [(500, 500), (501, 501)] [(1000, 1000)] (wU a b (by omega) (by omega)) Tryz.func72 (by kernel_rfl) rfl rfl rfl (⟨⟨_, rfl, rfl, rfl⟩, ⟨_, rfl, rfl, rfl⟩, trivial⟩) (⟨⟨_, _, rfl, rfl, rfl, rfl, nf, rfl⟩, ⟨_, _, rfl, rfl, rfl, rfl, nf, rfl⟩, trivial⟩) (⟨⟨1000, _, rfl, rfl, rfl, rfl, .inl rfl⟩, trivial⟩) (⟨nf, nf, trivial⟩) rfl) rfl <| .y (aZ (U := [(1008, some ⟨.aggI (dg ((a + b) % fp)), 3, true⟩)]) [(500, 1000)] [(1008, 1000)] (nO (a + b) h (by omega)) Tryz.func83 (by kernel_rfl) rfl rfl rfl (⟨⟨_, rfl, rfl, rfl⟩, trivial⟩) (⟨⟨_, _, rfl, rfl, rfl, rfl, nf, rfl⟩, trivial⟩) (⟨⟨1000, _, rfl, rfl, rfl, rfl, .inl rfl⟩, trivial⟩) (⟨nf, trivial⟩) rfl) rfl <| .s rfl rfl <| .nil <| Ev.weak (st2 := ⟨[(4, .sl 1000 0 (dl ((a + b) % fp)) 1)], [(1000, some ⟨.aggI (dg ((a + b) % fp)), 3, true⟩)], 1008⟩) (StLe.mk [(1000, 1008)] rfl rfl ⟨⟨_, rfl, by (show AV.sl 1000 0 (dl ((a + b) % fp)) 1 = _; rfl), rfl⟩, trivial⟩ ⟨⟨_, _, rfl, rfl, by (show AV.aggI (dg ((a + b) % fp)) = _; rfl), rfl, id, rfl⟩, trivial⟩) <| .ret ?_
 exact yZ rfl (.inl rfl) rfl rfl ⟨rfl, trivial⟩
theorem add05 (a b : Nat) (ha : a < fp) (hb : b < fp) : kZ Tryz.prog 45 [.sl 500 0 (dl a) 1, .sl 501 0 (dl b) 1] [(500, some ⟨.aggI (dg a), 3, false⟩), (501, some ⟨.aggI (dg b), 3, false⟩)] (.sl 1000 0 (dl ((a + b) % fp)) 1) [(1000, some ⟨.aggI (dg ((a + b) % fp)), 3, true⟩)] := by
 by_cases h : a + b < fp
 ·exact add05_a a b ha hb h
 ·exact add05_b a b ha hb (by omega)
set_option maxHeartbeats 1000000 in
set_option maxRecDepth 100000 in
theorem mul05_a (a b : Nat) (ha : a < fp) (hb : b < fp) (h : a * b < fp) : kZ Tryz.prog 87 [.sl 500 0 (dl a) 1, .sl 501 0 (dl b) 1] [(500, some ⟨.aggI (dg a), 3, false⟩), (501, some ⟨.aggI (dg b), 3, false⟩)] (.sl 1000 0 (dl (a * b % fp)) 1) [(1000, some ⟨.aggI (dg (a * b % fp)), 3, true⟩)] := by
 have hda := lY ha
 have hdb := lY hb
 have hfp := rV
 have hs := uJ (a := a) (b := b) hda hdb
 refine mt (nt := 9) Tryz.func87 rfl rfl rfl <| .r <| .s rfl rfl <| .nil <| .r <| .m rfl rfl <| .m rfl rfl <| .y (aZ (U := [(1000, some ⟨.aggI (dg (a * b)), 3, true⟩)]) [(500, 500), (501, 501)] [(1000, 1000)] (fQ a b (by omega) (by omega)) Tryz.func73 (by kernel_rfl) rfl rfl rfl (⟨⟨_, rfl, rfl, rfl⟩, ⟨_, rfl, rfl, rfl⟩, trivial⟩) (⟨⟨_, _, rfl, rfl, rfl, rfl, nf, rfl⟩, ⟨_, _, rfl, rfl, rfl, rfl, nf, rfl⟩, trivial⟩) (⟨⟨1000, _, rfl, rfl, rfl, rfl, .inl rfl⟩, trivial⟩) (⟨nf, nf, trivial⟩) rfl) rfl <| .x (aZ (U := []) [(500, 1000)] [] (yP (a * b) h) Tryz.func83 (by kernel_rfl) rfl rfl rfl (⟨⟨_, rfl, rfl, rfl⟩, trivial⟩) (⟨⟨_, _, rfl, rfl, rfl, rfl, nf, rfl⟩, trivial⟩) (trivial) (⟨nf, trivial⟩) rfl) rfl <| .s rfl rfl <| .nil <| Ev.weak (st2 := ⟨[(4, .sl 1000 0 (dl (a * b % fp)) 1)], [(1000, some ⟨.aggI (dg (a * b % fp)), 3, true⟩)], 1008⟩) (StLe.mk [(1000, 1000)] rfl rfl ⟨⟨_, rfl, by (show AV.sl 1000 0 (dl (a * b)) 1 = _; rw [Nat.mod_eq_of_lt h]), rfl⟩, trivial⟩ ⟨⟨_, _, rfl, rfl, by (show AV.aggI (dg (a * b)) = _; rw [Nat.mod_eq_of_lt h]), rfl, id, rfl⟩, trivial⟩) <| .ret ?_
 exact yZ rfl (.inl rfl) rfl rfl ⟨rfl, trivial⟩
set_option maxHeartbeats 1000000 in
set_option maxRecDepth 100000 in
theorem mul05_b (a b : Nat) (ha : a < fp) (hb : b < fp) (h : fp ≤ a * b) : kZ Tryz.prog 87 [.sl 500 0 (dl a) 1, .sl 501 0 (dl b) 1] [(500, some ⟨.aggI (dg a), 3, false⟩), (501, some ⟨.aggI (dg b), 3, false⟩)] (.sl 1000 0 (dl (a * b % fp)) 1) [(1000, some ⟨.aggI (dg (a * b % fp)), 3, true⟩)] := by
 have hda := lY ha
 have hdb := lY hb
 have hfp := rV
 have hs := uJ (a := a) (b := b) hda hdb
 refine mt (nt := 9) Tryz.func87 rfl rfl rfl <| .r <| .s rfl rfl <| .nil <| .r <| .m rfl rfl <| .m rfl rfl <| .y (aZ (U := [(1000, some ⟨.aggI (dg (a * b)), 3, true⟩)]) [(500, 500), (501, 501)] [(1000, 1000)] (fQ a b (by omega) (by omega)) Tryz.func73 (by kernel_rfl) rfl rfl rfl (⟨⟨_, rfl, rfl, rfl⟩, ⟨_, rfl, rfl, rfl⟩, trivial⟩) (⟨⟨_, _, rfl, rfl, rfl, rfl, nf, rfl⟩, ⟨_, _, rfl, rfl, rfl, rfl, nf, rfl⟩, trivial⟩) (⟨⟨1000, _, rfl, rfl, rfl, rfl, .inl rfl⟩, trivial⟩) (⟨nf, nf, trivial⟩) rfl) rfl <| .y (aZ (U := [(1008, some ⟨.aggI (dg ((a * b) % fp)), 3, true⟩)]) [(500, 1000)] [(1008, 1000)] (nO (a * b) h (by omega)) Tryz.func83 (by kernel_rfl) rfl rfl rfl (⟨⟨_, rfl, rfl, rfl⟩, trivial⟩) (⟨⟨_, _, rfl, rfl, rfl, rfl, nf, rfl⟩, trivial⟩) (⟨⟨1000, _, rfl, rfl, rfl, rfl, .inl rfl⟩, trivial⟩) (⟨nf, trivial⟩) rfl) rfl <| .s rfl rfl <| .nil <| Ev.weak (st2 := ⟨[(4, .sl 1000 0 (dl (a * b % fp)) 1)], [(1000, some ⟨.aggI (dg (a * b % fp)), 3, true⟩)], 1008⟩) (StLe.mk [(1000, 1008)] rfl rfl ⟨⟨_, rfl, by (show AV.sl 1000 0 (dl ((a * b) % fp)) 1 = _; rfl), rfl⟩, trivial⟩ ⟨⟨_, _, rfl, rfl, by (show AV.aggI (dg ((a * b) % fp)) = _; rfl), rfl, id, rfl⟩, trivial⟩) <| .ret ?_
 exact yZ rfl (.inl rfl) rfl rfl ⟨rfl, trivial⟩
theorem mul05 (a b : Nat) (ha : a < fp) (hb : b < fp) : kZ Tryz.prog 87 [.sl 500 0 (dl a) 1, .sl 501 0 (dl b) 1] [(500, some ⟨.aggI (dg a), 3, false⟩), (501, some ⟨.aggI (dg b), 3, false⟩)] (.sl 1000 0 (dl (a * b % fp)) 1) [(1000, some ⟨.aggI (dg (a * b % fp)), 3, true⟩)] := by
 by_cases h : a * b < fp
 ·exact mul05_a a b ha hb h
 ·exact mul05_b a b ha hb (by omega)
set_option maxHeartbeats 1000000 in
set_option maxRecDepth 100000 in
theorem sub05_a (a b : Nat) (ha : a < fp) (hb : b < fp) (h : a + fp - b < fp) : kZ Tryz.prog 38 [.sl 500 0 (dl a) 1, .sl 501 0 (dl b) 1] [(500, some ⟨.aggI (dg a), 3, false⟩), (501, some ⟨.aggI (dg b), 3, false⟩)] (.sl 1000 0 (dl ((a + (fp - b)) % fp)) 1) [(1000, some ⟨.aggI (dg ((a + (fp - b)) % fp)), 3, true⟩)] := by
 have hda := lY ha
 have hdb := lY hb
 have hfp := rV
 have hs := vJ (a := a) (b := fp) hda hfp
 have hs2 := cX (Nat.sub_le (a + fp) b)
 refine mt (nt := 11) Tryz.func38 rfl rfl rfl <| .r <| .s rfl rfl <| .nil <| .r <| .m rfl rfl <| .y (aZ (U := [(1000, some ⟨.aggI (dg (fp)), 3, true⟩)]) [] [(1000, 1000)] (P_ev) Tryz.func85 (by kernel_rfl) rfl rfl rfl (trivial) (trivial) (⟨⟨1000, _, rfl, rfl, rfl, rfl, .inl rfl⟩, trivial⟩) (trivial) rfl) rfl <| .y (aZ (U := [(1008, some ⟨.aggI (dg (a + fp)), 3, true⟩)]) [(500, 500), (501, 1000)] [(1008, 1000)] (wU a fp (by omega) (by omega)) Tryz.func72 (by kernel_rfl) rfl rfl rfl (⟨⟨_, rfl, rfl, rfl⟩, ⟨_, rfl, rfl, rfl⟩, trivial⟩) (⟨⟨_, _, rfl, rfl, rfl, rfl, nf, rfl⟩, ⟨_, _, rfl, rfl, rfl, rfl, nf, rfl⟩, trivial⟩) (⟨⟨1000, _, rfl, rfl, rfl, rfl, .inl rfl⟩, trivial⟩) (⟨nf, nf, trivial⟩) rfl) rfl <| .m rfl rfl <| .y (aZ (U := [(1016, some ⟨.aggI (dg (a + fp - b)), 3, true⟩)]) [(500, 1008), (501, 501)] [(1016, 1000)] (gS (a + fp) b (by omega) (by omega) (by omega)) Tryz.func84 (by kernel_rfl) rfl rfl rfl (⟨⟨_, rfl, rfl, rfl⟩, ⟨_, rfl, rfl, rfl⟩, trivial⟩) (⟨⟨_, _, rfl, rfl, rfl, rfl, nf, rfl⟩, ⟨_, _, rfl, rfl, rfl, rfl, nf, rfl⟩, trivial⟩) (⟨⟨1000, _, rfl, rfl, rfl, rfl, .inl rfl⟩, trivial⟩) (⟨nf, nf, trivial⟩) rfl) rfl <| .x (aZ (U := []) [(500, 1016)] [] (yP (a + fp - b) h) Tryz.func83 (by kernel_rfl) rfl rfl rfl (⟨⟨_, rfl, rfl, rfl⟩, trivial⟩) (⟨⟨_, _, rfl, rfl, rfl, rfl, nf, rfl⟩, trivial⟩) (trivial) (⟨nf, trivial⟩) rfl) rfl <| .s rfl rfl <| .nil <| Ev.weak (st2 := ⟨[(4, .sl 1000 0 (dl ((a + (fp - b)) % fp)) 1)], [(1000, some ⟨.aggI (dg ((a + (fp - b)) % fp)), 3, true⟩)], 1008⟩) (StLe.mk [(1000, 1016)] rfl rfl ⟨⟨_, rfl, by (show AV.sl 1000 0 (dl (a + fp - b)) 1 = _; rw [show a + (fp - b) = a + fp - b by omega, Nat.mod_eq_of_lt h]), rfl⟩, trivial⟩ ⟨⟨_, _, rfl, rfl, by (show AV.aggI (dg (a + fp - b)) = _; rw [show a + (fp - b) = a + fp - b by omega, Nat.mod_eq_of_lt h]), rfl, id, rfl⟩, trivial⟩) <| .ret ?_
 exact yZ rfl (.inl rfl) rfl rfl ⟨rfl, trivial⟩
set_option maxHeartbeats 1000000 in
set_option maxRecDepth 100000 in
theorem sub05_b (a b : Nat) (ha : a < fp) (hb : b < fp) (h : fp ≤ a + fp - b) : kZ Tryz.prog 38 [.sl 500 0 (dl a) 1, .sl 501 0 (dl b) 1] [(500, some ⟨.aggI (dg a), 3, false⟩), (501, some ⟨.aggI (dg b), 3, false⟩)] (.sl 1000 0 (dl ((a + (fp - b)) % fp)) 1) [(1000, some ⟨.aggI (dg ((a + (fp - b)) % fp)), 3, true⟩)] := by
 have hda := lY ha
 have hdb := lY hb
 have hfp := rV
 have hs := vJ (a := a) (b := fp) hda hfp
 have hs2 := cX (Nat.sub_le (a + fp) b)
 refine mt (nt := 11) Tryz.func38 rfl rfl rfl <| .r <| .s rfl rfl <| .nil <| .r <| .m rfl rfl <| .y (aZ (U := [(1000, some ⟨.aggI (dg (fp)), 3, true⟩)]) [] [(1000, 1000)] (P_ev) Tryz.func85 (by kernel_rfl) rfl rfl rfl (trivial) (trivial) (⟨⟨1000, _, rfl, rfl, rfl, rfl, .inl rfl⟩, trivial⟩) (trivial) rfl) rfl <| .y (aZ (U := [(1008, some ⟨.aggI (dg (a + fp)), 3, true⟩)]) [(500, 500), (501, 1000)] [(1008, 1000)] (wU a fp (by omega) (by omega)) Tryz.func72 (by kernel_rfl) rfl rfl rfl (⟨⟨_, rfl, rfl, rfl⟩, ⟨_, rfl, rfl, rfl⟩, trivial⟩) (⟨⟨_, _, rfl, rfl, rfl, rfl, nf, rfl⟩, ⟨_, _, rfl, rfl, rfl, rfl, nf, rfl⟩, trivial⟩) (⟨⟨1000, _, rfl, rfl, rfl, rfl, .inl rfl⟩, trivial⟩) (⟨nf, nf, trivial⟩) rfl) rfl <| .m rfl rfl <| .y (aZ (U := [(1016, some ⟨.aggI (dg (a + fp - b)), 3, true⟩)]) [(500, 1008), (501, 501)] [(1016, 1000)] (gS (a + fp) b (by omega) (by omega) (by omega)) Tryz.func84 (by kernel_rfl) rfl rfl rfl (⟨⟨_, rfl, rfl, rfl⟩, ⟨_, rfl, rfl, rfl⟩, trivial⟩) (⟨⟨_, _, rfl, rfl, rfl, rfl, nf, rfl⟩, ⟨_, _, rfl, rfl, rfl, rfl, nf, rfl⟩, trivial⟩) (⟨⟨1000, _, rfl, rfl, rfl, rfl, .inl rfl⟩, trivial⟩) (⟨nf, nf, trivial⟩) rfl) rfl <| .y (aZ (U := [(1024, some ⟨.aggI (dg ((a + fp - b) % fp)), 3, true⟩)]) [(500, 1016)] [(1024, 1000)] (nO (a + fp - b) h (by omega)) Tryz.func83 (by kernel_rfl) rfl rfl rfl (⟨⟨_, rfl, rfl, rfl⟩, trivial⟩) (⟨⟨_, _, rfl, rfl, rfl, rfl, nf, rfl⟩, trivial⟩) (⟨⟨1000, _, rfl, rfl, rfl, rfl, .inl rfl⟩, trivial⟩) (⟨nf, trivial⟩) rfl) rfl <| .s rfl rfl <| .nil <| Ev.weak (st2 := ⟨[(4, .sl 1000 0 (dl ((a + (fp - b)) % fp)) 1)], [(1000, some ⟨.aggI (dg ((a + (fp - b)) % fp)), 3, true⟩)], 1008⟩) (StLe.mk [(1000, 1024)] rfl rfl ⟨⟨_, rfl, by (show AV.sl 1000 0 (dl ((a + fp - b) % fp)) 1 = _; rw [show a + (fp - b) = a + fp - b by omega]), rfl⟩, trivial⟩ ⟨⟨_, _, rfl, rfl, by (show AV.aggI (dg ((a + fp - b) % fp)) = _; rw [show a + (fp - b) = a + fp - b by omega]), rfl, id, rfl⟩, trivial⟩) <| .ret ?_
 exact yZ rfl (.inl rfl) rfl rfl ⟨rfl, trivial⟩
theorem sub05 (a b : Nat) (ha : a < fp) (hb : b < fp) : kZ Tryz.prog 38 [.sl 500 0 (dl a) 1, .sl 501 0 (dl b) 1] [(500, some ⟨.aggI (dg a), 3, false⟩), (501, some ⟨.aggI (dg b), 3, false⟩)] (.sl 1000 0 (dl ((a + (fp - b)) % fp)) 1) [(1000, some ⟨.aggI (dg ((a + (fp - b)) % fp)), 3, true⟩)] := by
 by_cases h : a + fp - b < fp
 ·exact sub05_a a b ha hb h
 ·exact sub05_b a b ha hb (by omega)
set_option maxHeartbeats 1000000 in
set_option maxRecDepth 100000 in
theorem subn05_a (b : Nat) (hb : b < fp) (h : fp - b < fp) : kZ Tryz.prog 38 [.nilsl, .sl 501 0 (dl b) 1] [(501, some ⟨.aggI (dg b), 3, false⟩)] (.sl 1000 0 (dl ((fp - b) % fp)) 1) [(1000, some ⟨.aggI (dg ((fp - b) % fp)), 3, true⟩)] := by
 have hdb := lY hb
 have hfp := rV
 have hs2 := cX (Nat.sub_le fp b)
 refine mt (nt := 11) Tryz.func38 rfl rfl rfl <| .r <| .s rfl rfl <| .nil <| .r <| .m rfl rfl <| .y (aZ (U := [(1000, some ⟨.aggI (dg (fp)), 3, true⟩)]) [] [(1000, 1000)] (P_ev) Tryz.func85 (by kernel_rfl) rfl rfl rfl (trivial) (trivial) (⟨⟨1000, _, rfl, rfl, rfl, rfl, .inl rfl⟩, trivial⟩) (trivial) rfl) rfl <| .y (aZ (U := [(1008, some ⟨.aggI (dg fp), 3, true⟩)]) [(501, 1000)] [(1008, 1000)] (add_nl (dl fp) fp (bW fp) (by omega)) Tryz.func72 (by kernel_rfl) rfl rfl rfl (⟨⟨_, rfl, rfl, rfl⟩, ⟨_, rfl, rfl, rfl⟩, trivial⟩) (⟨⟨_, _, rfl, rfl, rfl, rfl, nf, rfl⟩, trivial⟩) (⟨⟨1000, _, rfl, rfl, rfl, rfl, .inl rfl⟩, trivial⟩) (⟨nf, trivial⟩) rfl) rfl <| .m rfl rfl <| .y (aZ (U := [(1016, some ⟨.aggI (dg (fp - b)), 3, true⟩)]) [(500, 1008), (501, 501)] [(1016, 1000)] (gS fp b (by omega) (by omega) (by omega)) Tryz.func84 (by kernel_rfl) rfl rfl rfl (⟨⟨_, rfl, rfl, rfl⟩, ⟨_, rfl, rfl, rfl⟩, trivial⟩) (⟨⟨_, _, rfl, rfl, rfl, rfl, nf, rfl⟩, ⟨_, _, rfl, rfl, rfl, rfl, nf, rfl⟩, trivial⟩) (⟨⟨1000, _, rfl, rfl, rfl, rfl, .inl rfl⟩, trivial⟩) (⟨nf, nf, trivial⟩) rfl) rfl <| .x (aZ (U := []) [(500, 1016)] [] (yP (fp - b) h) Tryz.func83 (by kernel_rfl) rfl rfl rfl (⟨⟨_, rfl, rfl, rfl⟩, trivial⟩) (⟨⟨_, _, rfl, rfl, rfl, rfl, nf, rfl⟩, trivial⟩) (trivial) (⟨nf, trivial⟩) rfl) rfl <| .s rfl rfl <| .nil <| Ev.weak (st2 := ⟨[(4, .sl 1000 0 (dl ((fp - b) % fp)) 1)], [(1000, some ⟨.aggI (dg ((fp - b) % fp)), 3, true⟩)], 1008⟩) (StLe.mk [(1000, 1016)] rfl rfl ⟨⟨_, rfl, by (show AV.sl 1000 0 (dl (fp - b)) 1 = _; rw [Nat.mod_eq_of_lt h]), rfl⟩, trivial⟩ ⟨⟨_, _, rfl, rfl, by (show AV.aggI (dg (fp - b)) = _; rw [Nat.mod_eq_of_lt h]), rfl, id, rfl⟩, trivial⟩) <| .ret ?_
 exact yZ rfl (.inl rfl) rfl rfl ⟨rfl, trivial⟩
set_option maxHeartbeats 1000000 in
set_option maxRecDepth 100000 in
theorem subn05_b (b : Nat) (hb : b < fp) (h : fp ≤ fp - b) : kZ Tryz.prog 38 [.nilsl, .sl 501 0 (dl b) 1] [(501, some ⟨.aggI (dg b), 3, false⟩)] (.sl 1000 0 (dl ((fp - b) % fp)) 1) [(1000, some ⟨.aggI (dg ((fp - b) % fp)), 3, true⟩)] := by
 have hdb := lY hb
 have hfp := rV
 have hs2 := cX (Nat.sub_le fp b)
 refine mt (nt := 11) Tryz.func38 rfl rfl rfl <| .r <| .s rfl rfl <| .nil <| .r <| .m rfl rfl <| .y (aZ (U := [(1000, some ⟨.aggI (dg (fp)), 3, true⟩)]) [] [(1000, 1000)] (P_ev) Tryz.func85 (by kernel_rfl) rfl rfl rfl (trivial) (trivial) (⟨⟨1000, _, rfl, rfl, rfl, rfl, .inl rfl⟩, trivial⟩) (trivial) rfl) rfl <| .y (aZ (U := [(1008, some ⟨.aggI (dg fp), 3, true⟩)]) [(501, 1000)] [(1008, 1000)] (add_nl (dl fp) fp (bW fp) (by omega)) Tryz.func72 (by kernel_rfl) rfl rfl rfl (⟨⟨_, rfl, rfl, rfl⟩, ⟨_, rfl, rfl, rfl⟩, trivial⟩) (⟨⟨_, _, rfl, rfl, rfl, rfl, nf, rfl⟩, trivial⟩) (⟨⟨1000, _, rfl, rfl, rfl, rfl, .inl rfl⟩, trivial⟩) (⟨nf, trivial⟩) rfl) rfl <| .m rfl rfl <| .y (aZ (U := [(1016, some ⟨.aggI (dg (fp - b)), 3, true⟩)]) [(500, 1008), (501, 501)] [(1016, 1000)] (gS fp b (by omega) (by omega) (by omega)) Tryz.func84 (by kernel_rfl) rfl rfl rfl (⟨⟨_, rfl, rfl, rfl⟩, ⟨_, rfl, rfl, rfl⟩, trivial⟩) (⟨⟨_, _, rfl, rfl, rfl, rfl, nf, rfl⟩, ⟨_, _, rfl, rfl, rfl, rfl, nf, rfl⟩, trivial⟩) (⟨⟨1000, _, rfl, rfl, rfl, rfl, .inl rfl⟩, trivial⟩) (⟨nf, nf, trivial⟩) rfl) rfl <| .y (aZ (U := [(1024, some ⟨.aggI (dg ((fp - b) % fp)), 3, true⟩)]) [(500, 1016)] [(1024, 1000)] (nO (fp - b) h (by omega)) Tryz.func83 (by kernel_rfl) rfl rfl rfl (⟨⟨_, rfl, rfl, rfl⟩, trivial⟩) (⟨⟨_, _, rfl, rfl, rfl, rfl, nf, rfl⟩, trivial⟩) (⟨⟨1000, _, rfl, rfl, rfl, rfl, .inl rfl⟩, trivial⟩) (⟨nf, trivial⟩) rfl) rfl <| .s rfl rfl <| .nil <| Ev.weak (st2 := ⟨[(4, .sl 1000 0 (dl ((fp - b) % fp)) 1)], [(1000, some ⟨.aggI (dg ((fp - b) % fp)), 3, true⟩)], 1008⟩) (StLe.mk [(1000, 1024)] rfl rfl ⟨⟨_, rfl, by (show AV.sl 1000 0 (dl ((fp - b) % fp)) 1 = _; rfl), rfl⟩, trivial⟩ ⟨⟨_, _, rfl, rfl, by (show AV.aggI (dg ((fp - b) % fp)) = _; rfl), rfl, id, rfl⟩, trivial⟩) <| .ret ?_
 exact yZ rfl (.inl rfl) rfl rfl ⟨rfl, trivial⟩
theorem subn05 (b : Nat) (hb : b < fp) : kZ Tryz.prog 38 [.nilsl, .sl 501 0 (dl b) 1] [(501, some ⟨.aggI (dg b), 3, false⟩)] (.sl 1000 0 (dl ((fp - b) % fp)) 1) [(1000, some ⟨.aggI (dg ((fp - b) % fp)), 3, true⟩)] := by
 by_cases h : fp - b < fp
 ·exact subn05_a b hb h
 ·exact subn05_b b hb (by omega)
set_option maxHeartbeats 1000000 in
set_option maxRecDepth 100000 in
theorem bytes05 (a : Nat) : kZ Tryz.prog 47 [.sl 500 0 (dl a) 1] [(500, some ⟨.aggI (dg a), 3, false⟩)] (.str (bsN a 32)) [] := by
 refine mt (nt := 5) Tryz.func47 rfl rfl rfl <| .r <| .s rfl rfl <| .nil <| .r <| .m rfl rfl <| .x (aZ (U := []) [(500, 500)] [] (gO a 32 (by omega)) Tryz.func68 (by kernel_rfl) rfl rfl rfl (⟨⟨_, rfl, rfl, rfl⟩, ⟨_, rfl, rfl, rfl⟩, trivial⟩) (⟨⟨_, _, rfl, rfl, rfl, rfl, nf, rfl⟩, trivial⟩) (trivial) (⟨nf, trivial⟩) rfl) rfl <| .s rfl rfl <| .nil <| .ret ?_
 exact yZ rfl (.inl rfl) rfl rfl trivial
theorem odd_yes (a : Nat) : decide (((dk a 0 : Nat) : Int) % 2 = 1) = decide (a % 2 = 1) := by
 have : dk a 0 = a % 65536 := by unfold dk; simp
 rw [this]; exact decide_eq_decide.2 (by omega)
theorem odd_no (a : Nat) (h : dl a ≤ 0) : false = decide (a % 2 = 1) := by
 have : a = 0 := by have := bW a; rw [show dl a = 0 by omega] at this; omega
 subst this; rfl
set_option maxHeartbeats 1000000 in
set_option maxRecDepth 100000 in
theorem odd05 (a : Nat) (hd : dl a ≤ 100) : kZ Tryz.prog 48 [.sl 500 0 (dl a) 1] [(500, some ⟨.aggI (dg a), 3, false⟩)] (.bool (decide (a % 2 = 1))) [] := by
 have hlg := dX a
 have hdk0 := qU a 0
 refine mt (nt := 13) Tryz.func48 rfl rfl rfl <| .r <| .s rfl rfl <| .nil <| .r <| .m rfl rfl <| .x (rZ Tryz.underlying38 rfl) rfl <| .x (gZ rfl rfl rfl) rfl <| .m rfl rfl <| .split (fun hg6 => ?_) (fun hg6 => ?_)
 ·simp only [decide_eq_true_eq] at hg6
  refine .q (iX rfl) ⟨_, rfl, rfl⟩ rfl <| .q (cY Tryz.underlying38 inf3.sz rfl rfl rfl (by simp only [AV.len]; omega)) ⟨_, rfl, rfl⟩ rfl <| .q (fZ Tryz.underlying3 rfl rfl rfl rfl (by show 0 < (dg a).length; omega)) ⟨_, rfl, rfl⟩ rfl <| .as (.i64 ((dk a 0 : Nat) : Int)) (congrArg AV.i64 (aW (dl a) a 0 (by omega))) <| .q (qY rfl rfl ⟨by omega, by omega⟩) ⟨_, rfl, rfl⟩ rfl <| .q (gZ rfl rfl rfl) ⟨_, rfl, rfl⟩ rfl <| .x (sY rfl rfl rfl) rfl <| .s rfl rfl <| .nil <| .ret ?_
  first
   | exact yZ rfl (.inl rfl) rfl (congrArg AV.bool (odd_yes a)) trivial
   | exact yZ rfl (.inl rfl) rfl (congrArg AV.bool (odd_no a (by omega))) trivial
 ·simp only [decide_eq_false_iff_not] at hg6
  refine .no ⟨_, rfl, rfl⟩ rfl <| .no ⟨_, rfl, rfl⟩ rfl <| .no ⟨_, rfl, rfl⟩ rfl <| .no ⟨_, rfl, rfl⟩ rfl <| .no ⟨_, rfl, rfl⟩ rfl <| .x (aY rfl rfl rfl) rfl <| .s rfl rfl <| .nil <| .ret ?_
  first
   | exact yZ rfl (.inl rfl) rfl (congrArg AV.bool (odd_yes a)) trivial
   | exact yZ rfl (.inl rfl) rfl (congrArg AV.bool (odd_no a (by omega))) trivial
end Go.Proofs.YtcnjekoidgefpaaGreatDoor
