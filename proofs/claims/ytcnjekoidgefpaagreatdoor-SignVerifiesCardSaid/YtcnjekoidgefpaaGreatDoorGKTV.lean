/-
  Texts of this claim.
-/
import Derived.Test.YtcnjekoidgefpaaGreatDoorGKRV
import Derived.Test.YtcnjekoidgefpaaGreatDoorGR1V
namespace Go.Proofs.YtcnjekoidgefpaaGreatDoor
open Go.RowKit
theorem dn_lt2 (n v i : Nat) : 0 ≤ (dn n v).getD i 0 ∧ (dn n v).getD i 0 < 65536 := by
  rcases Nat.lt_or_ge i n with h | h
  · rw [aW _ _ _ h]; have := qU v i; omega
  · rw [List.getD_eq_getElem?_getD, List.getElem?_eq_none (by rw [gY]; exact h)]; simp
set_option maxHeartbeats 1000000 in
set_option maxRecDepth 100000 in
theorem qP (s : List UInt8) (hs : s.length ≤ 1000000) : kZ Tryz.prog 23 [.str s] [] (.sl 1000 0 (dl (leN s s.length)) 1) [(1000, some ⟨.aggI (dg (leN s s.length)), 3, true⟩)] := by
 refine mt (nt := 36) Tryz.func23 rfl rfl rfl <| .r <| .s rfl rfl <| .nil <| .r <| .y (dW (z := 1) (c := .aggI []) Tryz.underlying38 inf3 rfl) rfl <| .s rfl rfl <| .nil <| .seq <| .r <| .s rfl rfl <| .nil <| .block <| Ev.loop (ι := { k : Nat // k ≤ s.length }) (fun q => ⟨[(0, .str s), (3, .sl 1000 0 ((q.1 + 1) / 2) 1), (4, .i64 ((q.1 : Nat) : Int))], [(1000, some ⟨.aggI (dn ((q.1 + 1) / 2) (leN s q.1)), 3, true⟩)], 1008⟩) (fun q => s.length - q.1) ⟨0, Nat.zero_le _⟩ (StLe.mk [(1000, 1000)] rfl rfl ⟨⟨_, rfl, by rfl, rfl⟩, ⟨_, rfl, by (show AV.sl 1000 0 0 1 = AV.sl 1000 0 ((0 + 1) / 2) 1; rw [show (0 + 1) / 2 = 0 from by decide]), rfl⟩, ⟨_, rfl, by rfl, rfl⟩, trivial⟩ ⟨⟨_, _, rfl, rfl, by (show AV.aggI [] = AV.aggI (dn ((0 + 1) / 2) (leN s 0)); rw [show (0 + 1) / 2 = 0 from by decide]; rfl), rfl, id, rfl⟩, trivial⟩) ?_
 rintro ⟨k, hk⟩
 dsimp only
 have hl := gY ((k + 1) / 2) (leN s k)
 have hq : k = 2 * (k / 2) ∨ k = 2 * (k / 2) + 1 := by omega
 generalize hm : k / 2 = m at hq
 refine .seq <| .r <| .m rfl rfl <| .m rfl rfl <| .x (yX Tryz.underlying9 rfl) rfl <| .x (gZ rfl rfl rfl) rfl <| .nil <| .cond rfl (fun hc9 => ?_) (fun hc9 => ?_)
 ·simp only [decide_eq_true_eq] at hc9
  refine .skip <| .seq <| .block <| .r <| .m rfl rfl <| .x (qY rfl rfl ⟨by omega, by omega⟩) rfl <| .x (gZ rfl rfl rfl) rfl <| .nil <| .cond rfl (fun hc14 => ?_) (fun hc14 => ?_)
  ·simp only [beq_iff_eq] at hc14
   refine .region <| .m rfl rfl <| .m rfl rfl <| .m rfl rfl <| .x (oS Tryz.underlying9 rfl rfl rfl (by omega)) rfl <| .x (vX Tryz.underlying5 Tryz.underlying3 rfl rfl) rfl <| .y (vZ (us := [_]) (c := .aggI [_]) Tryz.underlying38 inf3 rfl (by decide) (by decide) ⟨rfl, rfl, rfl, trivial⟩ rfl) rfl <| .y (aX Tryz.underlying38 inf3 rfl rfl rfl rfl (by first | omega | (simp only [AV.len, gY]; done) | (simp [AV.len]; done)) rfl rfl (by first | omega | (simp only [AV.len]; done) | (simp [AV.len]; done)) rfl (by first | omega | (simp only [AV.len, gY, fY]; done) | (simp [AV.len]; done))) rfl <| .s rfl rfl <| .nil <| .region <| .m rfl rfl <| .x (jZ rfl rfl ⟨by omega, by omega⟩) rfl <| .s rfl rfl <| .nil ?_
   first
    | exact ⟨⟨k + 1, by omega⟩, by dsimp only; omega, StLe.mk [(1000, 1016)] rfl rfl ⟨⟨_, rfl, by rfl, rfl⟩, ⟨_, rfl, by (simp only [AV.ren]; congr 1; omega), rfl⟩, ⟨_, rfl, by rfl, rfl⟩, trivial⟩ ⟨⟨_, _, rfl, rfl, by (simp only [AV.ren]; rw [show (k + 1) / 2 = m by omega, show (k + 1 + 1) / 2 = m + 1 by omega, show k = 2 * m by omega, of_even]), rfl, id, rfl⟩, trivial⟩⟩
    | exact ⟨⟨k + 1, by omega⟩, by dsimp only; omega, StLe.mk [(1000, 1000)] rfl rfl ⟨⟨_, rfl, by rfl, rfl⟩, ⟨_, rfl, by (simp only [AV.ren]; congr 1; omega), rfl⟩, ⟨_, rfl, by rfl, rfl⟩, trivial⟩ ⟨⟨_, _, rfl, rfl, by (simp only [AV.ren]; rw [show (k + 1) / 2 = m + 1 by omega, show (k + 1 + 1) / 2 = m + 1 by omega, show k = 2 * m + 1 by omega, show 2 * m + 1 + 1 = 2 * m + 2 from rfl, of_odd]), rfl, id, rfl⟩, trivial⟩⟩
  ·simp only [ne_eq, beq_eq_false_iff_ne] at hc14
   refine .drawn [[], [], [1], [0, 1, 2], [0, 1, 2, 3], [], [], [5, 6], [5, 6, 7], [5, 6, 7, 8], [0, 1, 2, 3, 4, 5, 6, 7, 8, 9], [0, 1, 2, 3, 4, 5, 6, 7, 8, 9, 10], [0, 1, 2, 3, 4, 5, 6, 7, 8, 9, 10, 11]] [4, 12] [12] (by kernel_rfl) (by kernel_rfl) rfl <| .m rfl rfl <| .m rfl rfl <| .x rfl (pY rfl rfl ⟨by omega, ⟨by omega, by omega⟩, by omega⟩) <| .x rfl (cY Tryz.underlying38 inf3.sz rfl rfl (i := m) (by omega) (by omega)) <| .x rfl (fZ Tryz.underlying3 rfl rfl rfl rfl (by simp only [AV.len]; omega)) <| .m rfl rfl <| .m rfl rfl <| .x rfl (oS Tryz.underlying9 rfl rfl rfl (by omega)) <| .x rfl (vX Tryz.underlying5 Tryz.underlying3 rfl rfl) ?_
   have hb := (s.getD k 0).toNat_lt
   refine .x rfl (uY rfl rfl ⟨by omega, by omega⟩) ?_
   have hd := dn_lt2 ((k + 1) / 2) (leN s k) m
   refine .x rfl (jZ rfl rfl ⟨by omega, by omega⟩) <| .x rfl (cY Tryz.underlying38 inf3.sz rfl rfl (i := m) (by omega) (by omega)) <| .w rfl (iY inf3.sz rfl rfl rfl rfl rfl (by simp only [AV.len]; omega)) trivial rfl rfl <| .nil <| .region <| .m rfl rfl <| .x (jZ rfl rfl ⟨by omega, by omega⟩) rfl <| .s rfl rfl <| .nil ?_
   first
    | exact ⟨⟨k + 1, by omega⟩, by dsimp only; omega, StLe.mk [(1000, 1016)] rfl rfl ⟨⟨_, rfl, by rfl, rfl⟩, ⟨_, rfl, by (simp only [AV.ren]; congr 1; omega), rfl⟩, ⟨_, rfl, by rfl, rfl⟩, trivial⟩ ⟨⟨_, _, rfl, rfl, by (simp only [AV.ren]; rw [show (k + 1) / 2 = m by omega, show (k + 1 + 1) / 2 = m + 1 by omega, show k = 2 * m by omega, of_even]), rfl, id, rfl⟩, trivial⟩⟩
    | exact ⟨⟨k + 1, by omega⟩, by dsimp only; omega, StLe.mk [(1000, 1000)] rfl rfl ⟨⟨_, rfl, by rfl, rfl⟩, ⟨_, rfl, by (simp only [AV.ren]; congr 1; omega), rfl⟩, ⟨_, rfl, by rfl, rfl⟩, trivial⟩ ⟨⟨_, _, rfl, rfl, by (simp only [AV.ren]; rw [show (k + 1) / 2 = m + 1 by omega, show (k + 1 + 1) / 2 = m + 1 by omega, show k = 2 * m + 1 by omega, show 2 * m + 1 + 1 = 2 * m + 2 from rfl, of_odd]), rfl, id, rfl⟩, trivial⟩⟩
 ·simp only [decide_eq_false_iff_not] at hc9
  refine .exit <| .r <| .m rfl rfl <| .x (aZ (U := []) [(500, 1000)] [] (kS ((k + 1) / 2) (leN s k) (vR s k) (by omega)) Tryz.func49 (by kernel_rfl) rfl rfl rfl (⟨⟨_, rfl, rfl, rfl⟩, trivial⟩) (⟨⟨_, _, rfl, rfl, rfl, rfl, nf, rfl⟩, trivial⟩) (trivial) (⟨nf, trivial⟩) rfl) rfl <| .s rfl rfl <| .nil <| Ev.pre (H2 := [(1000, some ⟨.aggI (dg (leN s s.length)), 3, true⟩)]) ⟨⟨.aggI (dn ((k + 1) / 2) (leN s k)), dl (leN s k), rfl, (by rw [show s.length = k by omega]; exact wP _ _ (qX (vR s k)))⟩, trivial⟩ <| .ret ?_
  exact yZ rfl (.inl rfl) rfl (by rw [show s.length = k by omega]; rfl) ⟨rfl, trivial⟩
set_option maxHeartbeats 1000000 in
set_option maxRecDepth 100000 in
theorem oV (a b : Nat) (ha : dl a ≤ 1000000) (hb : dl b ≤ 1000000) : kZ Tryz.prog 82 [.sl 500 0 (dl a) 1, .sl 501 0 (dl b) 1] [(500, some ⟨.aggI (dg a), 3, false⟩), (501, some ⟨.aggI (dg b), 3, false⟩)] (.i64 (cmpN a b)) [] := by
 refine mt (nt := 45) Tryz.func82 rfl rfl rfl <| .r <| .s rfl rfl <| .nil <| .r <| .m rfl rfl <| .x (aZ (U := []) [(500, 500)] [] (kS (dl a) a (bW a) ha) Tryz.func49 (by kernel_rfl) rfl rfl rfl (⟨⟨_, rfl, rfl, rfl⟩, trivial⟩) (⟨⟨_, _, rfl, rfl, rfl, rfl, nf, rfl⟩, trivial⟩) (trivial) (⟨nf, trivial⟩) rfl) rfl <| .s rfl rfl <| .nil <| .r <| .m rfl rfl <| .x (aZ (U := []) [(500, 501)] [] (kS (dl b) b (bW b) hb) Tryz.func49 (by kernel_rfl) rfl rfl rfl (⟨⟨_, rfl, rfl, rfl⟩, trivial⟩) (⟨⟨_, _, rfl, rfl, rfl, rfl, nf, rfl⟩, trivial⟩) (trivial) (⟨nf, trivial⟩) rfl) rfl <| .s rfl rfl <| .nil <| .seq <| .r <| .m rfl rfl <| .x (rZ Tryz.underlying38 rfl) rfl <| .m rfl rfl <| .x (rZ Tryz.underlying38 rfl) rfl <| .x (gZ rfl rfl rfl) rfl <| .nil <| .cond rfl (fun hc14 => ?_) (fun hc14 => ?_)
 ·simp only [bne_iff_ne, ne_eq] at hc14
  refine .seq <| .r <| .m rfl rfl <| .x (rZ Tryz.underlying38 rfl) rfl <| .m rfl rfl <| .x (rZ Tryz.underlying38 rfl) rfl <| .x (gZ rfl rfl rfl) rfl <| .nil <| .cond rfl (fun hc19 => ?_) (fun hc19 => ?_)
  ·simp only [decide_eq_true_eq] at hc19
   refine .r <| .s rfl rfl <| .nil <| .ret ?_
   first
    | exact yZ rfl (.inl rfl) rfl (congrArg AV.i64 (lM (by first | exact iQ (by omega) | exact gQ (k := k - 1) (hkk2 (by omega)) (by omega))).symm) trivial
    | exact yZ rfl (.inl rfl) rfl (congrArg AV.i64 (mM (by first | exact iQ (by omega) | exact gQ (k := k - 1) (hkk2 (by omega)).symm (by omega))).symm) trivial
    | exact yZ rfl (.inl rfl) rfl (congrArg AV.i64 (nM (by rw [show k = 0 by omega] at hkk; simpa using hkk)).symm) trivial
  ·simp only [decide_eq_false_iff_not] at hc19
   refine .skip <| .r <| .s rfl rfl <| .nil <| .ret ?_
   first
    | exact yZ rfl (.inl rfl) rfl (congrArg AV.i64 (lM (by first | exact iQ (by omega) | exact gQ (k := k - 1) (hkk2 (by omega)) (by omega))).symm) trivial
    | exact yZ rfl (.inl rfl) rfl (congrArg AV.i64 (mM (by first | exact iQ (by omega) | exact gQ (k := k - 1) (hkk2 (by omega)).symm (by omega))).symm) trivial
    | exact yZ rfl (.inl rfl) rfl (congrArg AV.i64 (nM (by rw [show k = 0 by omega] at hkk; simpa using hkk)).symm) trivial
 ·simp only [bne_eq_false_iff_eq] at hc14
  refine .skip <| .seq <| .r <| .m rfl rfl <| .x (rZ Tryz.underlying38 rfl) rfl <| .x (tY rfl rfl ⟨by omega, by omega⟩) rfl <| .s rfl rfl <| .nil <| .block <| Ev.loop (ι := { k : Nat // k ≤ dl a ∧ a / 65536 ^ k = b / 65536 ^ k }) (fun q => ⟨[(0, .sl 500 0 (dl a) 1), (1, .sl 501 0 (dl b) 1), (5, .i64 (((q.1 : Nat) : Int) - 1))], [(500, some ⟨.aggI (dg a), 3, false⟩), (501, some ⟨.aggI (dg b), 3, false⟩)], 1000⟩) (fun q => q.1) ⟨dl a, Nat.le_refl _, by rw [div_top, show dl a = dl b by omega, div_top]⟩ (StLe.mk [] rfl rfl ⟨⟨_, rfl, by first | rfl | (simp only [AV.ren]; congr 1; omega), rfl⟩, ⟨_, rfl, by first | rfl | (simp only [AV.ren]; congr 1; omega), rfl⟩, ⟨_, rfl, by first | rfl | (simp only [AV.ren]; congr 1; omega), rfl⟩, trivial⟩ ⟨⟨_, _, rfl, rfl, rfl, rfl, id, rfl⟩, ⟨_, _, rfl, rfl, rfl, rfl, id, rfl⟩, trivial⟩) ?_
  rintro ⟨k, hk, hkk⟩
  try dsimp only
  have hA : 0 < k → (dg a).getD (k - 1) 0 = (dk a (k - 1) : Int) := fun h => aW _ _ _ (by omega)
  have hB : 0 < k → (dg b).getD (k - 1) 0 = (dk b (k - 1) : Int) := fun h => aW _ _ _ (by omega)
  have hab : dl a = dl b := by omega
  have hkk2 : 0 < k → a / 65536 ^ (k - 1 + 1) = b / 65536 ^ (k - 1 + 1) := fun h => by rw [show k - 1 + 1 = k by omega]; exact hkk
  have l1 := dX a
  have l2 := dX b
  refine .seq <| .r <| .m rfl rfl <| .x (gZ rfl rfl rfl) rfl <| .nil <| .cond rfl (fun hc24 => ?_) (fun hc24 => ?_)
  ·simp only [decide_eq_true_eq] at hc24
   refine .skip <| .seq <| .block <| .seq <| .seq <| .drawn [[], [], [0, 1], [0, 1, 2], [], [], [4, 5], [4, 5, 6], [0, 1, 2, 3, 4, 5, 6, 7]] [3, 7] [] (by kernel_rfl) (by kernel_rfl) rfl <| .m rfl rfl <| .m rfl rfl <| .x rfl (cY Tryz.underlying38 inf3.sz rfl rfl (i := k - 1) (by omega) (by omega)) <| .x rfl (fZ Tryz.underlying3 rfl rfl rfl rfl (by simp only [AV.len]; omega)) <| .as (.i64 (dk a (k - 1) : Int)) (congrArg AV.i64 (hA (by omega))) <| .m rfl rfl <| .m rfl rfl <| .x rfl (cY Tryz.underlying38 inf3.sz rfl rfl (i := k - 1) (by omega) (by omega)) <| .x rfl (fZ Tryz.underlying3 rfl rfl rfl rfl (by simp only [AV.len]; omega)) <| .as (.i64 (dk b (k - 1) : Int)) (congrArg AV.i64 (hB (by omega))) <| .x rfl (gZ rfl rfl rfl) <| .nil <| .cond rfl (fun hc35 => ?_) (fun hc35 => ?_)
   ·simp only [decide_eq_true_eq] at hc35
    refine .r <| .s rfl rfl <| .nil <| .ret ?_
    first
     | exact yZ rfl (.inl rfl) rfl (congrArg AV.i64 (lM (by first | exact iQ (by omega) | exact gQ (k := k - 1) (hkk2 (by omega)) (by omega))).symm) trivial
     | exact yZ rfl (.inl rfl) rfl (congrArg AV.i64 (mM (by first | exact iQ (by omega) | exact gQ (k := k - 1) (hkk2 (by omega)).symm (by omega))).symm) trivial
     | exact yZ rfl (.inl rfl) rfl (congrArg AV.i64 (nM (by rw [show k = 0 by omega] at hkk; simpa using hkk)).symm) trivial
   ·simp only [decide_eq_false_iff_not] at hc35
    refine .skip <| .seq <| .drawn [[], [], [0, 1], [0, 1, 2], [], [], [4, 5], [4, 5, 6], [0, 1, 2, 3, 4, 5, 6, 7]] [3, 7] [] (by kernel_rfl) (by kernel_rfl) rfl <| .m rfl rfl <| .m rfl rfl <| .x rfl (cY Tryz.underlying38 inf3.sz rfl rfl (i := k - 1) (by omega) (by omega)) <| .x rfl (fZ Tryz.underlying3 rfl rfl rfl rfl (by simp only [AV.len]; omega)) <| .as (.i64 (dk a (k - 1) : Int)) (congrArg AV.i64 (hA (by omega))) <| .m rfl rfl <| .m rfl rfl <| .x rfl (cY Tryz.underlying38 inf3.sz rfl rfl (i := k - 1) (by omega) (by omega)) <| .x rfl (fZ Tryz.underlying3 rfl rfl rfl rfl (by simp only [AV.len]; omega)) <| .as (.i64 (dk b (k - 1) : Int)) (congrArg AV.i64 (hB (by omega))) <| .x rfl (gZ rfl rfl rfl) <| .nil <| .cond rfl (fun hc44 => ?_) (fun hc44 => ?_)
    ·simp only [decide_eq_true_eq] at hc44
     refine .r <| .s rfl rfl <| .nil <| .ret ?_
     first
      | exact yZ rfl (.inl rfl) rfl (congrArg AV.i64 (lM (by first | exact iQ (by omega) | exact gQ (k := k - 1) (hkk2 (by omega)) (by omega))).symm) trivial
      | exact yZ rfl (.inl rfl) rfl (congrArg AV.i64 (mM (by first | exact iQ (by omega) | exact gQ (k := k - 1) (hkk2 (by omega)).symm (by omega))).symm) trivial
      | exact yZ rfl (.inl rfl) rfl (congrArg AV.i64 (nM (by rw [show k = 0 by omega] at hkk; simpa using hkk)).symm) trivial
    ·simp only [decide_eq_false_iff_not] at hc44
     refine .skip <| .region <| .m rfl rfl <| .x (tY rfl rfl ⟨by omega, by omega⟩) rfl <| .s rfl rfl <| .nil ?_
     exact ⟨⟨k - 1, by omega, cmp_eq (k := k - 1) (by rw [show k - 1 + 1 = k by omega]; exact hkk) (by omega)⟩, by (try dsimp only); omega, StLe.mk [] rfl rfl ⟨⟨_, rfl, by rfl, rfl⟩, ⟨_, rfl, by rfl, rfl⟩, ⟨_, rfl, by (simp only [AV.ren]; congr 1; omega), rfl⟩, trivial⟩ ⟨⟨_, _, rfl, rfl, rfl, rfl, id, rfl⟩, ⟨_, _, rfl, rfl, rfl, rfl, id, rfl⟩, trivial⟩⟩
  ·simp only [decide_eq_false_iff_not] at hc24
   refine .exit <| .r <| .s rfl rfl <| .nil <| .ret ?_
   first
    | exact yZ rfl (.inl rfl) rfl (congrArg AV.i64 (lM (by first | exact iQ (by omega) | exact gQ (k := k - 1) (hkk2 (by omega)) (by omega))).symm) trivial
    | exact yZ rfl (.inl rfl) rfl (congrArg AV.i64 (mM (by first | exact iQ (by omega) | exact gQ (k := k - 1) (hkk2 (by omega)).symm (by omega))).symm) trivial
    | exact yZ rfl (.inl rfl) rfl (congrArg AV.i64 (nM (by rw [show k = 0 by omega] at hkk; simpa using hkk)).symm) trivial
end Go.Proofs.YtcnjekoidgefpaaGreatDoor
namespace Go.Proofs.YtcnjekoidgefpaaGreatDoor
def sd (X k d : Nat) : Nat := X - dk X k * 65536 ^ k + d * 65536 ^ k
theorem dk_mul_le (X k : Nat) : dk X k * 65536 ^ k ≤ X :=
  Nat.le_trans (Nat.mul_le_mul_right _ (Nat.mod_le _ _)) (Nat.div_mul_le_self X (65536 ^ k))
theorem sd_add (X k d : Nat) : sd X k d + dk X k * 65536 ^ k = X + d * 65536 ^ k := by
  have := dk_mul_le X k
  unfold sd
  omega
theorem dk_succ (X k : Nat) : dk X (k + 1) = dk (X / 65536) k := by
  unfold dk
  rw [Nat.div_div_eq_div_mul, Nat.pow_succ, Nat.mul_comm (65536 ^ k)]
theorem sd_succ (X k d : Nat) : sd X (k + 1) d = 65536 * sd (X / 65536) k d + X % 65536 := by
  have h1 := sd_add X (k + 1) d
  have h2 := sd_add (X / 65536) k d
  rw [dk_succ, Nat.pow_succ, ← Nat.mul_assoc, ← Nat.mul_assoc] at h1
  omega
theorem dn_set (N X k d : Nat) (hk : k < N) (hd : d < 65536) : (dn N X).set k (d : Int) = dn N (sd X k d) := by
  induction k generalizing N X with
  | zero =>
    obtain ⟨n, rfl⟩ : ∃ n, N = n + 1 := ⟨N - 1, by omega⟩
    have h1 := sd_add X 0 d
    have h2 : dk X 0 = X % 65536 := by simp [dk]
    rw [h2, Nat.pow_zero, Nat.mul_one, Nat.mul_one] at h1
    simp only [dn, List.set_cons_zero]
    rw [show sd X 0 d % 65536 = d by omega, show sd X 0 d / 65536 = X / 65536 by omega]
  | succ k ih =>
    obtain ⟨n, rfl⟩ : ∃ n, N = n + 1 := ⟨N - 1, by omega⟩
    simp only [dn, List.set_cons_succ]
    rw [ih n (X / 65536) (by omega), sd_succ]
    rw [show (65536 * sd (X / 65536) k d + X % 65536) % 65536 = X % 65536 by omega, show (65536 * sd (X / 65536) k d + X % 65536) / 65536 = sd (X / 65536) k d by omega]
theorem mod_next (v k : Nat) : v % 65536 ^ (k + 1) = v % 65536 ^ k + 65536 ^ k * dk v k := by
  rw [Nat.pow_succ, Nat.mod_mul]; rfl
theorem carry_step {X c k E : Nat} (h : X + c * 65536 ^ k = E) (A x : Nat) (hx : x = dk X k + A + c) : sd X k (x % 65536) + x / 65536 * 65536 ^ (k + 1) = E + A * 65536 ^ k := by
  have h1 := sd_add X k (x % 65536)
  rw [Nat.pow_succ]
  generalize hP : 65536 ^ k = P at *
  have e1 : x / 65536 * (P * 65536) + x % 65536 * P = x * P := by
    have e2 : x / 65536 * (P * 65536) = x / 65536 * 65536 * P := by simp only [Nat.mul_comm, Nat.mul_left_comm]
    rw [e2, ← Nat.add_mul]; congr 1; omega
  have e3 : x * P = dk X k * P + A * P + c * P := by rw [hx, Nat.add_mul, Nat.add_mul]
  omega
theorem mul_step {X c i j A b E : Nat} (h : X + c * 65536 ^ (i + j) = E + 65536 ^ i * (A * (b % 65536 ^ j))) (x : Nat) (hx : x = dk X (i + j) + A * dk b j + c) :
    sd X (i + j) (x % 65536) + x / 65536 * 65536 ^ (i + (j + 1)) = E + 65536 ^ i * (A * (b % 65536 ^ (j + 1))) := by
  have h1 := carry_step h (A * dk b j) x hx
  rw [Nat.add_assoc] at h1
  rw [h1, mod_next, Nat.mul_add, Nat.mul_add, Nat.pow_add]
  have e : A * dk b j * (65536 ^ i * 65536 ^ j) = 65536 ^ i * (A * (65536 ^ j * dk b j)) := by ac_rfl
  omega
theorem mul_row {a b i X c : Nat} (h : X + c * 65536 ^ (i + dl b) = a % 65536 ^ i * b + 65536 ^ i * (dk a i * (b % 65536 ^ dl b))) : X + c * 65536 ^ (i + dl b) = a % 65536 ^ (i + 1) * b := by
  rw [h, Nat.mod_eq_of_lt (bW b), mod_next, Nat.add_mul, Nat.mul_assoc]
theorem row_lt (a b i : Nat) : a % 65536 ^ (i + 1) * b < 65536 ^ (i + 1 + dl b) := by
  rw [Nat.pow_add 65536 (i + 1)]
  have h1 := Nat.mod_lt a (show 0 < 65536 ^ (i + 1) from Nat.pow_pos (by decide))
  have h2 := bW b
  exact Nat.mul_lt_mul_of_lt_of_le h1 (Nat.le_of_lt h2) (Nat.lt_of_le_of_lt (Nat.zero_le _) h2)
theorem carry_in {a b i k X c : Nat} (h : X + c * 65536 ^ k = a % 65536 ^ (i + 1) * b) (hc : 0 < c) : k < i + 1 + dl b := by
  have h1 := row_lt a b i
  have h2 : 65536 ^ k ≤ c * 65536 ^ k := Nat.le_mul_of_pos_left _ hc
  rcases Nat.lt_or_ge k (i + 1 + dl b) with h3 | h3
  · exact h3
  · have := Nat.pow_le_pow_right (show 0 < 65536 by decide) h3; omega
theorem mul_lt (a b : Nat) : a * b < 65536 ^ (dl a + dl b + 1) := by
  have h1 := bW a
  have h2 := bW b
  have h3 : a * b < 65536 ^ dl a * 65536 ^ dl b := Nat.mul_lt_mul_of_lt_of_le h1 (Nat.le_of_lt h2) (Nat.lt_of_le_of_lt (Nat.zero_le _) h2)
  rw [Nat.pow_succ, Nat.pow_add]
  omega
theorem dk_mul_lt (a b i j : Nat) : dk a i * dk b j ≤ 65535 * 65535 := Nat.mul_le_mul (by have := qU a i; omega) (by have := qU b j; omega)
end Go.Proofs.YtcnjekoidgefpaaGreatDoor
namespace Go.Proofs.YtcnjekoidgefpaaGreatDoor
open Go.RowKit
theorem dn_zeros (n : Nat) : dn n 0 = List.replicate n 0 := by
  induction n with
  | zero => rfl
  | succ n ih => simp [dn, ih, List.replicate_succ]
set_option maxHeartbeats 1000000 in
set_option maxRecDepth 100000 in
theorem fQ (a b : Nat) (ha : dl a ≤ 1000) (hb : dl b ≤ 1000) : kZ Tryz.prog 73 [.sl 500 0 (dl a) 1, .sl 501 0 (dl b) 1] [(500, some ⟨.aggI (dg a), 3, false⟩), (501, some ⟨.aggI (dg b), 3, false⟩)] (.sl 1000 0 (dl (a * b)) 1) [(1000, some ⟨.aggI (dg (a * b)), 3, true⟩)] := by
 refine mt (nt := 81) Tryz.func73 rfl rfl rfl <| .r <| .s rfl rfl <| .nil <| .r <| .m rfl rfl <| .x (rZ Tryz.underlying38 rfl) rfl <| .m rfl rfl <| .x (rZ Tryz.underlying38 rfl) rfl <| .x (jZ rfl rfl ⟨by omega, by omega⟩) rfl <| .x (jZ rfl rfl ⟨by omega, by omega⟩) rfl <| .y (xJ (n := (dl a + dl b + 1)) (c := .aggI (List.replicate (dl a + dl b + 1) 0)) Tryz.underlying38 inf3 rfl rfl (by omega) (by omega) (by first | omega | (simp only [AV.len]; omega) | (simp only [AV.len, List.length_set]; omega) | assumption | (simp [AV.len]; done)) (rel_zero3) rfl (by simp [AV.list, AV.parts])) rfl <| .s rfl rfl <| .nil <| .seq <| .r <| .m rfl rfl <| .x (rZ Tryz.underlying38 rfl) rfl <| .m rfl rfl <| .nil <| .block <| Ev.loop (ι := { i : Nat // i ≤ dl a }) (fun q => ⟨[(0, .sl 500 0 (dl a) 1), (1, .sl 501 0 (dl b) 1), (5, .sl 1000 0 (dl a + dl b + 1) 1), (20, .i64 ((dl a : Nat) : Int)), (21, .i64 ((q.1 : Nat) : Int))], [(500, some ⟨.aggI (dg a), 3, false⟩), (501, some ⟨.aggI (dg b), 3, false⟩), (1000, some ⟨.aggI (dn (dl a + dl b + 1) (a % 65536 ^ q.1 * b)), 3, true⟩)], 1008⟩) (fun q => dl a - q.1) ⟨0, Nat.zero_le _⟩ (StLe.mk [(1000, 1000)] rfl rfl ⟨⟨_, rfl, by first | rfl | (simp only [AV.ren]; congr 1; omega), rfl⟩, ⟨_, rfl, by first | rfl | (simp only [AV.ren]; congr 1; omega), rfl⟩, ⟨_, rfl, by first | rfl | (simp only [AV.ren]; congr 1; omega), rfl⟩, ⟨_, rfl, by first | rfl | (simp only [AV.ren]; congr 1; omega), rfl⟩, ⟨_, rfl, by first | rfl | (simp only [AV.ren]; congr 1; omega), rfl⟩, trivial⟩ ⟨⟨_, _, rfl, rfl, rfl, rfl, id, rfl⟩, ⟨_, _, rfl, rfl, rfl, rfl, id, rfl⟩, ⟨_, _, rfl, rfl, by (show AV.aggI (List.replicate _ 0) = AV.aggI (dn _ (a % 65536 ^ 0 * b)); rw [Nat.pow_zero, Nat.mod_one, Nat.zero_mul, dn_zeros]), rfl, id, rfl⟩, trivial⟩) ?_
 rintro ⟨i, hi⟩
 try dsimp only
 have l1 := dX a
 have l2 := dX b
 refine .r <| .x (gZ rfl rfl rfl) rfl <| .nil <| .seq <| .cond rfl (fun hc22 => ?_) (fun hc22 => ?_)
 ·simp only [decide_eq_true_eq] at hc22
  refine .skip <| .seq <| .block <| .r <| .m rfl rfl <| .s rfl rfl <| .nil <| .r <| .s rfl rfl <| .nil <| .seq <| .r <| .m rfl rfl <| .x (rZ Tryz.underlying38 rfl) rfl <| .m rfl rfl <| .nil <| .block <| Ev.loop (ι := { p : Nat × Nat × Nat // p.1 ≤ dl b ∧ p.2.2 < 65536 ∧ p.2.1 + p.2.2 * 65536 ^ (i + p.1) = a % 65536 ^ i * b + 65536 ^ i * (dk a i * (b % 65536 ^ p.1)) }) (fun q => ⟨[(0, .sl 500 0 (dl a) 1), (1, .sl 501 0 (dl b) 1), (5, .sl 1000 0 (dl a + dl b + 1) 1), (20, .i64 ((dl a : Nat) : Int)), (21, .i64 (i : Int)), (6, .i64 (i : Int)), (7, .i64 ((q.1.2.2 : Nat) : Int)), (25, .i64 ((dl b : Nat) : Int)), (26, .i64 ((q.1.1 : Nat) : Int))], [(500, some ⟨.aggI (dg a), 3, false⟩), (501, some ⟨.aggI (dg b), 3, false⟩), (1000, some ⟨.aggI (dn (dl a + dl b + 1) (q.1.2.1)), 3, true⟩)], 1008⟩) (fun q => dl b - q.1.1) ⟨(0, a % 65536 ^ i * b, 0), Nat.zero_le _, Nat.zero_lt_succ _, by simp [Nat.mod_one]⟩ (StLe.mk [(1000, 1000)] rfl rfl ⟨⟨_, rfl, by first | rfl | (simp only [AV.ren]; congr 1; omega), rfl⟩, ⟨_, rfl, by first | rfl | (simp only [AV.ren]; congr 1; omega), rfl⟩, ⟨_, rfl, by first | rfl | (simp only [AV.ren]; congr 1; omega), rfl⟩, ⟨_, rfl, by first | rfl | (simp only [AV.ren]; congr 1; omega), rfl⟩, ⟨_, rfl, by first | rfl | (simp only [AV.ren]; congr 1; omega), rfl⟩, ⟨_, rfl, by first | rfl | (simp only [AV.ren]; congr 1; omega), rfl⟩, ⟨_, rfl, by first | rfl | (simp only [AV.ren]; congr 1; omega), rfl⟩, ⟨_, rfl, by first | rfl | (simp only [AV.ren]; congr 1; omega), rfl⟩, ⟨_, rfl, by first | rfl | (simp only [AV.ren]; congr 1; omega), rfl⟩, trivial⟩ ⟨⟨_, _, rfl, rfl, rfl, rfl, id, rfl⟩, ⟨_, _, rfl, rfl, rfl, rfl, id, rfl⟩, ⟨_, _, rfl, rfl, rfl, rfl, id, rfl⟩, trivial⟩) ?_
  rintro ⟨⟨j, X, c⟩, hj, hc, hX⟩
  try dsimp only
  replace hj : j ≤ dl b := hj
  replace hc : c < 65536 := hc
  replace hX : X + c * 65536 ^ (i + j) = a % 65536 ^ i * b + 65536 ^ i * (dk a i * (b % 65536 ^ j)) := hX
  have hG : j < dl b → (dn (dl a + dl b + 1) X).getD (i + j) 0 = (dk X (i + j) : Int) := fun h => aW _ _ _ (by omega)
  have hA : (dg a).getD i 0 = (dk a i : Int) := aW _ _ _ (by omega)
  have hB : j < dl b → (dg b).getD j 0 = (dk b j : Int) := fun h => aW _ _ _ h
  have hm := dk_mul_lt a b i j
  have d1 := qU X (i + j)
  have hl := gY (dl a + dl b + 1) X
  refine .r <| .x (gZ rfl rfl rfl) rfl <| .nil <| .seq <| .cond rfl (fun hc27 => ?_) (fun hc27 => ?_)
  ·simp only [decide_eq_true_eq] at hc27
   refine .skip <| .seq <| .block <| .r <| .m rfl rfl <| .s rfl rfl <| .nil <| .seq <| .drawn [[], [], [], [1, 2], [0, 1, 2, 3], [0, 1, 2, 3, 4], [], [], [6, 7], [6, 7, 8], [], [], [10, 11], [10, 11, 12], [6, 7, 8, 9, 10, 11, 12, 13], [0, 1, 2, 3, 4, 5, 6, 7, 8, 9, 10, 11, 12, 13, 14], [], [0, 1, 2, 3, 4, 5, 6, 7, 8, 9, 10, 11, 12, 13, 14, 15, 16], [0, 1, 2, 3, 4, 5, 6, 7, 8, 9, 10, 11, 12, 13, 14, 15, 16, 17]] [5, 9, 13] [] (by kernel_rfl) (by kernel_rfl) rfl <| .m rfl rfl <| .m rfl rfl <| .m rfl rfl <| .x rfl (jZ rfl rfl ⟨by omega, by omega⟩) <| .x rfl (cY Tryz.underlying38 inf3.sz rfl rfl (i := i + j) (by omega) (by omega)) <| .x rfl (fZ Tryz.underlying3 rfl rfl rfl rfl (by simp only [AV.len]; omega)) <| .as (.i64 (dk X (i + j) : Int)) (congrArg AV.i64 (hG (by omega))) <| .m rfl rfl <| .m rfl rfl <| .x rfl (cY Tryz.underlying38 inf3.sz rfl rfl rfl (by omega)) <| .x rfl (fZ Tryz.underlying3 rfl rfl rfl rfl (by simp only [AV.len]; omega)) <| .as (.i64 (dk a i : Int)) (congrArg AV.i64 hA) <| .m rfl rfl <| .m rfl rfl <| .x rfl (cY Tryz.underlying38 inf3.sz rfl rfl rfl (by first | omega | (simp only [AV.len]; omega) | (simp only [AV.len, List.length_set]; omega) | assumption | (simp [AV.len]; done))) <| .x rfl (fZ Tryz.underlying3 rfl rfl rfl rfl (by simp only [AV.len]; omega)) <| .as (.i64 (dk b j : Int)) (congrArg AV.i64 (hB (by omega))) <| .x rfl (uY rfl rfl ⟨by rw [← Int.natCast_mul]; omega, by rw [← Int.natCast_mul]; omega⟩) <| .as (.i64 ((dk a i * dk b j : Nat) : Int)) (congrArg AV.i64 (Int.natCast_mul _ _).symm) <| .x rfl (jZ rfl rfl ⟨by omega, by omega⟩) <| .m rfl rfl <| .x rfl (jZ rfl rfl ⟨by omega, by omega⟩) <| .as (.i64 (((dk X (i + j) + dk a i * dk b j + c) : Nat) : Int)) (congrArg AV.i64 (by omega)) <| .x rfl (uZ rfl) <| .nil <| .r <| .m rfl rfl <| .m rfl rfl <| .m rfl rfl <| .x (jZ rfl rfl ⟨by omega, by omega⟩) rfl <| .m rfl rfl <| .x (qY rfl rfl ⟨by omega, by omega⟩) rfl <| .as (.i64 (((dk X (i + j) + dk a i * dk b j + c) % 65536 : Nat) : Int)) (congrArg AV.i64 (by omega)) <| .x (cY Tryz.underlying38 inf3.sz rfl rfl (i := i + j) (by omega) (by omega)) rfl <| .w (iY inf3.sz rfl rfl rfl rfl rfl (by simp only [AV.len]; omega)) trivial rfl <| .asH (.aggI (dn (dl a + dl b + 1) (sd X (i + j) ((dk X (i + j) + dk a i * dk b j + c) % 65536)))) (congrArg AV.aggI (dn_set _ _ _ _ (by omega) (Nat.mod_lt _ (by decide)))) <| .nil <| .region <| .m rfl rfl <| .x (pY rfl rfl ⟨by omega, ⟨by omega, by omega⟩, by omega⟩) rfl <| .as (.i64 (((dk X (i + j) + dk a i * dk b j + c) / 65536 : Nat) : Int)) (congrArg AV.i64 (by omega)) <| .s rfl rfl <| .nil <| .region <| .x (jZ rfl rfl ⟨by omega, by omega⟩) rfl <| .m rfl rfl <| .nil ?_
   exact ⟨⟨(j + 1, sd X (i + j) ((dk X (i + j) + dk a i * dk b j + c) % 65536), (dk X (i + j) + dk a i * dk b j + c) / 65536), by show j + 1 ≤ dl b; omega, by show (dk X (i + j) + dk a i * dk b j + c) / 65536 < 65536; omega, mul_step hX _ rfl⟩, by (try dsimp only); omega, StLe.mk [(1000, 1000)] rfl rfl ⟨⟨_, rfl, by first | rfl | (simp only [AV.ren]; congr 1; omega), rfl⟩, ⟨_, rfl, by first | rfl | (simp only [AV.ren]; congr 1; omega), rfl⟩, ⟨_, rfl, by first | rfl | (simp only [AV.ren]; congr 1; omega), rfl⟩, ⟨_, rfl, by first | rfl | (simp only [AV.ren]; congr 1; omega), rfl⟩, ⟨_, rfl, by first | rfl | (simp only [AV.ren]; congr 1; omega), rfl⟩, ⟨_, rfl, by first | rfl | (simp only [AV.ren]; congr 1; omega), rfl⟩, ⟨_, rfl, by first | rfl | (simp only [AV.ren]; congr 1; omega), rfl⟩, ⟨_, rfl, by first | rfl | (simp only [AV.ren]; congr 1; omega), rfl⟩, ⟨_, rfl, by first | rfl | (simp only [AV.ren]; congr 1; omega), rfl⟩, trivial⟩ ⟨⟨_, _, rfl, rfl, rfl, rfl, id, rfl⟩, ⟨_, _, rfl, rfl, rfl, rfl, id, rfl⟩, ⟨_, _, rfl, rfl, rfl, rfl, id, rfl⟩, trivial⟩⟩
  ·simp only [decide_eq_false_iff_not] at hc27
   refine .exit <| .r <| .m rfl rfl <| .m rfl rfl <| .x (rZ Tryz.underlying38 rfl) rfl <| .x (jZ rfl rfl ⟨by omega, by omega⟩) rfl <| .s rfl rfl <| .nil <| .block <| Ev.loop (ι := { p : Nat × Nat × Nat // i + dl b ≤ p.1 ∧ p.2.2 < 65536 ∧ p.2.1 + p.2.2 * 65536 ^ p.1 = a % 65536 ^ (i + 1) * b }) (fun q => ⟨[(0, .sl 500 0 (dl a) 1), (1, .sl 501 0 (dl b) 1), (5, .sl 1000 0 (dl a + dl b + 1) 1), (20, .i64 ((dl a : Nat) : Int)), (21, .i64 (i : Int)), (7, .i64 ((q.1.2.2 : Nat) : Int)), (10, .i64 ((q.1.1 : Nat) : Int))], [(500, some ⟨.aggI (dg a), 3, false⟩), (501, some ⟨.aggI (dg b), 3, false⟩), (1000, some ⟨.aggI (dn (dl a + dl b + 1) (q.1.2.1)), 3, true⟩)], 1008⟩) (fun q => dl a + dl b + 1 - q.1.1) ⟨(i + dl b, X, c), Nat.le_refl _, hc, mul_row (by rw [show dl b = j by omega]; exact hX)⟩ (StLe.mk [(1000, 1000)] rfl rfl ⟨⟨_, rfl, by first | rfl | (simp only [AV.ren]; congr 1; omega), rfl⟩, ⟨_, rfl, by first | rfl | (simp only [AV.ren]; congr 1; omega), rfl⟩, ⟨_, rfl, by first | rfl | (simp only [AV.ren]; congr 1; omega), rfl⟩, ⟨_, rfl, by first | rfl | (simp only [AV.ren]; congr 1; omega), rfl⟩, ⟨_, rfl, by first | rfl | (simp only [AV.ren]; congr 1; omega), rfl⟩, ⟨_, rfl, by first | rfl | (simp only [AV.ren]; congr 1; omega), rfl⟩, ⟨_, rfl, by first | rfl | (simp only [AV.ren]; congr 1; omega), rfl⟩, trivial⟩ ⟨⟨_, _, rfl, rfl, rfl, rfl, id, rfl⟩, ⟨_, _, rfl, rfl, rfl, rfl, id, rfl⟩, ⟨_, _, rfl, rfl, rfl, rfl, id, rfl⟩, trivial⟩) ?_
   rintro ⟨⟨k, Y, d⟩, hk, hd, hY⟩
   try dsimp only
   replace hk : i + dl b ≤ k := hk
   replace hd : d < 65536 := hd
   replace hY : Y + d * 65536 ^ k = a % 65536 ^ (i + 1) * b := hY
   have hin : 0 < d → k < i + 1 + dl b := carry_in hY
   have hn : sd Y k ((dk Y k + d) % 65536) + (dk Y k + d) / 65536 * 65536 ^ (k + 1) = a % 65536 ^ (i + 1) * b := by rw [carry_step hY 0 (dk Y k + d) (by omega), Nat.zero_mul, Nat.add_zero]
   have hG2 : 0 < d → (dn (dl a + dl b + 1) Y).getD k 0 = (dk Y k : Int) := fun h => aW _ _ _ (by have := hin h; omega)
   have d2 := qU Y k
   have hl2 := gY (dl a + dl b + 1) Y
   refine .seq <| .r <| .m rfl rfl <| .x (gZ rfl rfl rfl) rfl <| .nil <| .cond rfl (fun hc62 => ?_) (fun hc62 => ?_)
   ·simp only [decide_eq_true_eq] at hc62
    refine .skip <| .seq <| .block <| .r <| .m rfl rfl <| .m rfl rfl <| .x (cY Tryz.underlying38 inf3.sz rfl rfl rfl (by omega)) rfl <| .x (fZ Tryz.underlying3 rfl rfl rfl rfl (by simp only [AV.len]; omega)) rfl <| .as (.i64 (dk Y k : Int)) (congrArg AV.i64 (hG2 (by omega))) <| .m rfl rfl <| .x (jZ rfl rfl ⟨by omega, by omega⟩) rfl <| .as (.i64 (((dk Y k + d) : Nat) : Int)) (congrArg AV.i64 (by omega)) <| .s rfl rfl <| .nil <| .r <| .m rfl rfl <| .m rfl rfl <| .m rfl rfl <| .x (qY rfl rfl ⟨by omega, by omega⟩) rfl <| .as (.i64 (((dk Y k + d) % 65536 : Nat) : Int)) (congrArg AV.i64 (by omega)) <| .x (cY Tryz.underlying38 inf3.sz rfl rfl rfl (by omega)) rfl <| .w (iY inf3.sz rfl rfl rfl rfl rfl (by simp only [AV.len]; omega)) trivial rfl <| .asH (.aggI (dn (dl a + dl b + 1) (sd Y k ((dk Y k + d) % 65536)))) (congrArg AV.aggI (dn_set _ _ _ _ (by omega) (Nat.mod_lt _ (by decide)))) <| .nil <| .region <| .m rfl rfl <| .x (pY rfl rfl ⟨by omega, ⟨by omega, by omega⟩, by omega⟩) rfl <| .as (.i64 (((dk Y k + d) / 65536 : Nat) : Int)) (congrArg AV.i64 (by omega)) <| .s rfl rfl <| .nil <| .region <| .m rfl rfl <| .x (jZ rfl rfl ⟨by omega, by omega⟩) rfl <| .s rfl rfl <| .nil ?_
    exact ⟨⟨(k + 1, sd Y k ((dk Y k + d) % 65536), (dk Y k + d) / 65536), by show i + dl b ≤ k + 1; omega, by show (dk Y k + d) / 65536 < 65536; omega, hn⟩, by (try dsimp only); omega, StLe.mk [(1000, 1000)] rfl rfl ⟨⟨_, rfl, by first | rfl | (simp only [AV.ren]; congr 1; omega), rfl⟩, ⟨_, rfl, by first | rfl | (simp only [AV.ren]; congr 1; omega), rfl⟩, ⟨_, rfl, by first | rfl | (simp only [AV.ren]; congr 1; omega), rfl⟩, ⟨_, rfl, by first | rfl | (simp only [AV.ren]; congr 1; omega), rfl⟩, ⟨_, rfl, by first | rfl | (simp only [AV.ren]; congr 1; omega), rfl⟩, ⟨_, rfl, by first | rfl | (simp only [AV.ren]; congr 1; omega), rfl⟩, ⟨_, rfl, by first | rfl | (simp only [AV.ren]; congr 1; omega), rfl⟩, trivial⟩ ⟨⟨_, _, rfl, rfl, rfl, rfl, id, rfl⟩, ⟨_, _, rfl, rfl, rfl, rfl, id, rfl⟩, ⟨_, _, rfl, rfl, rfl, rfl, id, rfl⟩, trivial⟩⟩
   ·simp only [decide_eq_false_iff_not] at hc62
    refine .exit <| .region <| .x (jZ rfl rfl ⟨by omega, by omega⟩) rfl <| .m rfl rfl <| .nil ?_
    exact ⟨⟨i + 1, by omega⟩, by (try dsimp only); omega, StLe.mk [(1000, 1000)] rfl rfl ⟨⟨_, rfl, by first | rfl | (simp only [AV.ren]; congr 1; omega), rfl⟩, ⟨_, rfl, by first | rfl | (simp only [AV.ren]; congr 1; omega), rfl⟩, ⟨_, rfl, by first | rfl | (simp only [AV.ren]; congr 1; omega), rfl⟩, ⟨_, rfl, by first | rfl | (simp only [AV.ren]; congr 1; omega), rfl⟩, ⟨_, rfl, by first | rfl | (simp only [AV.ren]; congr 1; omega), rfl⟩, trivial⟩ ⟨⟨_, _, rfl, rfl, rfl, rfl, id, rfl⟩, ⟨_, _, rfl, rfl, rfl, rfl, id, rfl⟩, ⟨_, _, rfl, rfl, by (simp only [AV.ren]; rw [show a % 65536 ^ (i + 1) * b = Y by rw [← hY, show d = 0 by omega, Nat.zero_mul, Nat.add_zero]]), rfl, id, rfl⟩, trivial⟩⟩
 ·simp only [decide_eq_false_iff_not] at hc22
  refine .exit <| .r <| .m rfl rfl <| .x (aZ (U := []) [(500, 1000)] [] (kS (dl a + dl b + 1) (a % 65536 ^ i * b) (by rw [show a % 65536 ^ i * b = a * b by rw [show i = dl a by omega, Nat.mod_eq_of_lt (bW a)]]; exact mul_lt a b) (by omega)) Tryz.func49 (by kernel_rfl) rfl rfl rfl (⟨⟨_, rfl, rfl, rfl⟩, trivial⟩) (⟨⟨_, _, rfl, rfl, rfl, rfl, nf, rfl⟩, trivial⟩) (trivial) (⟨nf, trivial⟩) rfl) rfl <| .s rfl rfl <| .nil <| Ev.pre (H2 := [(1000, some ⟨.aggI (dg (a * b)), 3, true⟩)]) ⟨⟨.aggI (dn (dl a + dl b + 1) (a % 65536 ^ i * b)), dl (a * b), rfl, (by rw [show a % 65536 ^ i * b = a * b by rw [show i = dl a by omega, Nat.mod_eq_of_lt (bW a)]]; exact wP (dl a + dl b + 1) (a * b) (qX (mul_lt a b)))⟩, trivial⟩ <| .ret ?_
  exact yZ rfl (.inl rfl) rfl (by rw [show a % 65536 ^ i * b = a * b by rw [show i = dl a by omega, Nat.mod_eq_of_lt (bW a)]]; rfl) ⟨rfl, trivial⟩
end Go.Proofs.YtcnjekoidgefpaaGreatDoor
namespace Go.Proofs.YtcnjekoidgefpaaGreatDoor
open Go.RowKit
theorem cX {a b : Nat} (h : a ≤ b) : dl a ≤ dl b := qX (Nat.lt_of_le_of_lt h (bW b))
end Go.Proofs.YtcnjekoidgefpaaGreatDoor
