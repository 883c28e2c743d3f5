/-
  Texts of this claim.
-/
import Derived.Test.YtcnjekoidgefpaaGreatDoorGKSV
import Derived.Test.YtcnjekoidgefpaaGreatDoorGEV
import Derived.Test.YtcnjekoidgefpaaGreatDoorGTV
import Derived.Test.YtcnjekoidgefpaaGreatDoorGF3V
namespace Go.Proofs.YtcnjekoidgefpaaGreatDoor
open Go.RowKit
theorem eK (a b : Nat) : dl (a * b) ≤ dl a + dl b := by
  refine qX ?_
  rw [Nat.pow_add]
  have ha := bW a
  have hb := bW b
  rcases Nat.eq_zero_or_pos b with h | h
  · subst h; rw [Nat.mul_zero]; exact Nat.mul_pos (by omega) (by omega)
  · exact Nat.mul_lt_mul_of_lt_of_le ha (Nat.le_of_lt hb) (Nat.pow_pos (by decide))
theorem wQ (k : Nat) : dl (2 ^ k) ≤ k / 16 + 1 := by
  refine qX ?_
  rw [show (65536 : Nat) = 2 ^ 16 from rfl, ← Nat.pow_mul]
  exact Nat.pow_lt_pow_right (by decide) (by omega)
theorem cmp_less {a b : Nat} (h : a < b) : cmpN a b = -1 := by unfold cmpN; rw [if_pos h]
theorem cmp_not {a b : Nat} (h : b ≤ a) : 0 ≤ cmpN a b := by unfold cmpN; rw [if_neg (by omega)]; split <;> decide
theorem kM {a b : Nat} : ¬ (0 ≤ cmpN a b) → a < b := fun h => by
  rcases Nat.lt_or_ge a b with c | c
  · exact c
  · exact absurd (cmp_not c) h
theorem sT {a b : Nat} : 0 ≤ cmpN a b → b ≤ a := fun h => by
  rcases Nat.lt_or_ge a b with c | c
  · rw [cmp_less c] at h; exact absurd h (by decide)
  · exact c
theorem jI (m k : Nat) : m ≤ m * 2 ^ k := Nat.le_mul_of_pos_right m (Nat.pow_pos (by decide))
theorem start_lt (a m : Nat) (h : m ≤ a) (h0 : 0 < m) : a < m * 2 ^ (16 * dl a + 16 - 16 * dl m + 1) := by
  have ha := bW a
  have hm : 65536 ^ (dl m - 1) ≤ m := by
    rcases Nat.lt_or_ge m (65536 ^ (dl m - 1)) with c | c
    · have h1 := qX c
      have : dl m ≠ 0 := fun e => by have := bW m; rw [e] at this; omega
      omega
    · exact c
  have hdl : dl m ≠ 0 := fun e => by have := bW m; rw [e] at this; omega
  have hle := cX h
  rw [show (65536 : Nat) = 2 ^ 16 from rfl, ← Nat.pow_mul] at ha hm
  have h2 : 2 ^ (16 * dl a) ≤ 2 ^ (16 * (dl m - 1)) * 2 ^ (16 * dl a + 16 - 16 * dl m + 1) := by
    rw [← Nat.pow_add]; exact Nat.pow_le_pow_right (by decide) (by omega)
  have h3 : 2 ^ (16 * (dl m - 1)) * 2 ^ (16 * dl a + 16 - 16 * dl m + 1) ≤ m * 2 ^ (16 * dl a + 16 - 16 * dl m + 1) := Nat.mul_le_mul_right _ hm
  omega
theorem wR (a m k : Nat) (h : m * k ≤ a) : (a - m * k) % m = a % m := by
  have e : a = (a - m * k) + m * k := by omega
  conv => rhs; rw [e, Nat.add_mul_mod_self_left]
theorem two_step (m n : Nat) : m * 2 ^ (n + 1) = m * 2 ^ n + m * 2 ^ n := by rw [Nat.pow_succ]; grind
set_option maxHeartbeats 1000000 in
set_option maxRecDepth 100000 in
theorem mod_id (a m : Nat) (h : a < m) (ha : dl a ≤ 200) (hm : dl m ≤ 200) : kZ Tryz.prog 69 [.sl 500 0 (dl a) 1, .sl 501 0 (dl m) 1] [(500, some ⟨.aggI (dg a), 3, false⟩), (501, some ⟨.aggI (dg m), 3, false⟩)] (.sl 500 0 (dl a) 1) [] := by
 have hda := dX a
 have hdm := dX m
 refine mt (nt := 31) Tryz.func69 rfl rfl rfl <| .r <| .s rfl rfl <| .nil <| .r <| .m rfl rfl <| .x (rZ Tryz.underlying38 rfl) rfl <| .x (uY rfl rfl ⟨by omega, by omega⟩) rfl <| .m rfl rfl <| .x (rZ Tryz.underlying38 rfl) rfl <| .x (uY rfl rfl ⟨by omega, by omega⟩) rfl <| .x (tY rfl rfl ⟨by omega, by omega⟩) rfl <| .x (jZ rfl rfl ⟨by omega, by omega⟩) rfl <| .s rfl rfl <| .nil <| .seq <| .block <| Ev.loop (ι := { n : Int // n ≤ 4000 ∧ -4000 ≤ n }) (fun q => ⟨[(0, .sl 500 0 (dl a) 1), (1, .sl 501 0 (dl m) 1), (5, .i64 q.1)], [(500, some ⟨.aggI (dg a), 3, false⟩), (501, some ⟨.aggI (dg m), 3, false⟩)], 1000⟩) (fun q => (q.1 + 4000).toNat) ⟨16 * (dl a : Int) - 16 * (dl m : Int) + 16, by omega⟩ (StLe.mk [] rfl rfl ⟨⟨_, rfl, by rfl, rfl⟩, ⟨_, rfl, by rfl, rfl⟩, ⟨_, rfl, by (first | rfl | (show AV.i64 _ = AV.i64 _; congr 1; omega)), rfl⟩, trivial⟩ ⟨⟨_, _, rfl, rfl, rfl, rfl, id, rfl⟩, ⟨_, _, rfl, rfl, rfl, rfl, id, rfl⟩, trivial⟩) ?_
 rintro ⟨n, hn⟩
 try dsimp only
 refine .seq <| .r <| .m rfl rfl <| .x (gZ rfl rfl rfl) rfl <| .nil <| .cond rfl (fun hc16 => ?_) (fun hc16 => ?_)
 ·simp only [decide_eq_true_eq] at hc16
  refine .skip <| .block <| .r <| .m rfl rfl <| .m rfl rfl <| .as (.i64 ((n.toNat : Nat) : Int)) (congrArg AV.i64 (by omega)) <| .y (aZ (U := [(1000, some ⟨.aggI (dg (2 ^ (n.toNat))), 3, true⟩)]) [] [(1000, 1000)] (bO (n.toNat) (by omega)) Tryz.func112 (by kernel_rfl) rfl rfl rfl (⟨⟨_, rfl, rfl, rfl⟩, trivial⟩) (trivial) (⟨⟨1000, _, rfl, rfl, rfl, rfl, .inl rfl⟩, trivial⟩) (trivial) rfl) rfl <| .y (aZ (U := [(1008, some ⟨.aggI (dg (m * 2 ^ (n.toNat))), 3, true⟩)]) [(500, 501), (501, 1000)] [(1008, 1000)] (fQ m (2 ^ (n.toNat)) (by omega) (by have := wQ (n.toNat); omega)) Tryz.func73 (by kernel_rfl) rfl rfl rfl (⟨⟨_, rfl, rfl, rfl⟩, ⟨_, rfl, rfl, rfl⟩, trivial⟩) (⟨⟨_, _, rfl, rfl, rfl, rfl, nf, rfl⟩, ⟨_, _, rfl, rfl, rfl, rfl, nf, rfl⟩, trivial⟩) (⟨⟨1000, _, rfl, rfl, rfl, rfl, .inl rfl⟩, trivial⟩) (⟨nf, nf, trivial⟩) rfl) rfl <| .s rfl rfl <| .nil <| .r <| .m rfl rfl <| .m rfl rfl <| .x (aZ (U := []) [(500, 500), (501, 1008)] [] (oV (a) (m * 2 ^ (n.toNat)) (by omega) (by have h1 := wQ (n.toNat); have h2 := eK m (2 ^ (n.toNat)); omega)) Tryz.func82 (by kernel_rfl) rfl rfl rfl (⟨⟨_, rfl, rfl, rfl⟩, ⟨_, rfl, rfl, rfl⟩, trivial⟩) (⟨⟨_, _, rfl, rfl, rfl, rfl, nf, rfl⟩, ⟨_, _, rfl, rfl, rfl, rfl, nf, rfl⟩, trivial⟩) (trivial) (⟨nf, nf, trivial⟩) rfl) rfl <| .x (gZ rfl rfl rfl) rfl <| .nil <| .cond_false rfl (decide_eq_false (by show ¬ (0 ≤ cmpN a (m * 2 ^ n.toNat)); rw [cmp_less (Nat.lt_of_lt_of_le h (jI m n.toNat))]; decide)) <| .region <| .m rfl rfl <| .x (tY rfl rfl ⟨by omega, by omega⟩) rfl <| .s rfl rfl <| .nil ?_
  exact ⟨⟨n - 1, by omega⟩, by (try dsimp only); omega, StLe.mk [] rfl rfl ⟨⟨_, rfl, by rfl, rfl⟩, ⟨_, rfl, by rfl, rfl⟩, ⟨_, rfl, by (first | rfl | (show AV.i64 _ = AV.i64 _; congr 1; omega)), rfl⟩, trivial⟩ ⟨⟨_, _, rfl, rfl, rfl, rfl, id, rfl⟩, ⟨_, _, rfl, rfl, rfl, rfl, id, rfl⟩, trivial⟩⟩
 ·simp only [decide_eq_false_iff_not] at hc16
  refine .exit <| .r <| .m rfl rfl <| .s rfl rfl <| .nil <| .ret ?_
  exact yZ rfl (.inl rfl) rfl rfl trivial
set_option maxHeartbeats 1000000 in
set_option maxRecDepth 100000 in
theorem mod_new (a m : Nat) (h : m ≤ a) (h0 : 0 < m) (ha : dl a ≤ 200) (hm : dl m ≤ 200) : kZ Tryz.prog 69 [.sl 500 0 (dl a) 1, .sl 501 0 (dl m) 1] [(500, some ⟨.aggI (dg a), 3, false⟩), (501, some ⟨.aggI (dg m), 3, false⟩)] (.sl 1000 0 (dl (a % m)) 1) [(1000, some ⟨.aggI (dg (a % m)), 3, true⟩)] := by
 have hda := dX a
 have hdm := dX m
 have hmono := cX h
 refine mt (nt := 31) Tryz.func69 rfl rfl rfl <| .r <| .s rfl rfl <| .nil <| .r <| .m rfl rfl <| .x (rZ Tryz.underlying38 rfl) rfl <| .x (uY rfl rfl ⟨by omega, by omega⟩) rfl <| .m rfl rfl <| .x (rZ Tryz.underlying38 rfl) rfl <| .x (uY rfl rfl ⟨by omega, by omega⟩) rfl <| .x (tY rfl rfl ⟨by omega, by omega⟩) rfl <| .x (jZ rfl rfl ⟨by omega, by omega⟩) rfl <| .s rfl rfl <| .nil <| .seq <| .block <| Ev.loop (ι := { n : Nat // a < m * 2 ^ (n + 1) ∧ n ≤ 4000 } ⊕ { p : Nat × Int // p.1 % m = a % m ∧ -1 ≤ p.2 ∧ p.2 ≤ 4000 ∧ p.1 < m * 2 ^ (p.2 + 1).toNat ∧ dl p.1 ≤ 200 }) (fun q => match q with | .inl n => ⟨[(0, .sl 500 0 (dl a) 1), (1, .sl 501 0 (dl m) 1), (5, .i64 ((n.1 : Nat) : Int))], [(500, some ⟨.aggI (dg a), 3, false⟩), (501, some ⟨.aggI (dg m), 3, false⟩)], 1000⟩ | .inr p => ⟨[(0, .sl 1000 0 (dl p.1.1) 1), (1, .sl 501 0 (dl m) 1), (5, .i64 p.1.2)], [(1000, some ⟨.aggI (dg p.1.1), 3, true⟩), (501, some ⟨.aggI (dg m), 3, false⟩)], 1008⟩) (fun q => match q with | .inl n => a + n.1 + 1 | .inr p => p.1.1 + (p.1.2 + 1).toNat) (.inl ⟨16 * dl a + 16 - 16 * dl m, start_lt a m h h0, by omega⟩) (StLe.mk [] rfl rfl ⟨⟨_, rfl, by rfl, rfl⟩, ⟨_, rfl, by rfl, rfl⟩, ⟨_, rfl, by (show AV.i64 _ = AV.i64 ((16 * dl a + 16 - 16 * dl m : Nat) : Int); congr 1; omega), rfl⟩, trivial⟩ ⟨⟨_, _, rfl, rfl, rfl, rfl, id, rfl⟩, ⟨_, _, rfl, rfl, rfl, rfl, id, rfl⟩, trivial⟩) ?_
 rintro (⟨n, hn, hn4⟩ | ⟨⟨x, n⟩, hx1, hx2, hx3, hx4, hx5⟩)
 ·try dsimp only
  have hn1 : ¬ (0 ≤ cmpN a (m * 2 ^ n)) → 1 ≤ n := fun hq => by
   have := kM hq
   rcases Nat.eq_zero_or_pos n with e | e
   ·rw [e, Nat.pow_zero, Nat.mul_one] at this; omega
   ·exact e
  refine .seq <| .r <| .m rfl rfl <| .x (gZ rfl rfl rfl) rfl <| .nil <| .cond_true rfl (decide_eq_true (by omega)) <| .skip <| .block <| .r <| .m rfl rfl <| .m rfl rfl <| .y (aZ (U := [(1000, some ⟨.aggI (dg (2 ^ (n))), 3, true⟩)]) [] [(1000, 1000)] (bO (n) (by omega)) Tryz.func112 (by kernel_rfl) rfl rfl rfl (⟨⟨_, rfl, rfl, rfl⟩, trivial⟩) (trivial) (⟨⟨1000, _, rfl, rfl, rfl, rfl, .inl rfl⟩, trivial⟩) (trivial) rfl) rfl <| .y (aZ (U := [(1008, some ⟨.aggI (dg (m * 2 ^ (n))), 3, true⟩)]) [(500, 501), (501, 1000)] [(1008, 1000)] (fQ m (2 ^ (n)) (by omega) (by have := wQ (n); omega)) Tryz.func73 (by kernel_rfl) rfl rfl rfl (⟨⟨_, rfl, rfl, rfl⟩, ⟨_, rfl, rfl, rfl⟩, trivial⟩) (⟨⟨_, _, rfl, rfl, rfl, rfl, nf, rfl⟩, ⟨_, _, rfl, rfl, rfl, rfl, nf, rfl⟩, trivial⟩) (⟨⟨1000, _, rfl, rfl, rfl, rfl, .inl rfl⟩, trivial⟩) (⟨nf, nf, trivial⟩) rfl) rfl <| .s rfl rfl <| .nil <| .r <| .m rfl rfl <| .m rfl rfl <| .x (aZ (U := []) [(500, 500), (501, 1008)] [] (oV (a) (m * 2 ^ (n)) (by omega) (by have h1 := wQ (n); have h2 := eK m (2 ^ (n)); omega)) Tryz.func82 (by kernel_rfl) rfl rfl rfl (⟨⟨_, rfl, rfl, rfl⟩, ⟨_, rfl, rfl, rfl⟩, trivial⟩) (⟨⟨_, _, rfl, rfl, rfl, rfl, nf, rfl⟩, ⟨_, _, rfl, rfl, rfl, rfl, nf, rfl⟩, trivial⟩) (trivial) (⟨nf, nf, trivial⟩) rfl) rfl <| .x (gZ rfl rfl rfl) rfl <| .nil <| .cond rfl (fun hc24 => ?_) (fun hc24 => ?_)
  ·simp only [decide_eq_true_eq] at hc24
   refine .region <| .m rfl rfl <| .m rfl rfl <| .y (aZ (U := [(1016, some ⟨.aggI (dg (a - m * 2 ^ (n))), 3, true⟩)]) [(500, 500), (501, 1008)] [(1016, 1000)] (gS (a) (m * 2 ^ (n)) (sT hc24) (by omega) (by have h1 := wQ (n); have h2 := eK m (2 ^ (n)); omega)) Tryz.func84 (by kernel_rfl) rfl rfl rfl (⟨⟨_, rfl, rfl, rfl⟩, ⟨_, rfl, rfl, rfl⟩, trivial⟩) (⟨⟨_, _, rfl, rfl, rfl, rfl, nf, rfl⟩, ⟨_, _, rfl, rfl, rfl, rfl, nf, rfl⟩, trivial⟩) (⟨⟨1000, _, rfl, rfl, rfl, rfl, .inl rfl⟩, trivial⟩) (⟨nf, nf, trivial⟩) rfl) rfl <| .s rfl rfl <| .nil ?_
   first
   | exact ⟨.inr ⟨(a - m * 2 ^ n, (n : Int)), wR a m _ (sT hc24), by show (-1 : Int) ≤ n; omega, by show (n : Int) ≤ 4000; omega, by show a - m * 2 ^ n < m * 2 ^ ((n : Int) + 1).toNat; rw [show ((n : Int) + 1).toNat = n + 1 by omega]; have := two_step m n; omega, Nat.le_trans (cX (Nat.sub_le _ _)) ha⟩, by show a - m * 2 ^ n + ((n : Int) + 1).toNat < a + n + 1; have := jI m n; have := sT hc24; omega, StLe.mk [(1000, 1016)] rfl rfl ⟨⟨_, rfl, by rfl, rfl⟩, ⟨_, rfl, by rfl, rfl⟩, ⟨_, rfl, by rfl, rfl⟩, trivial⟩ ⟨⟨_, _, rfl, rfl, rfl, rfl, id, rfl⟩, ⟨_, _, rfl, rfl, rfl, rfl, id, rfl⟩, trivial⟩⟩
   | exact ⟨.inl ⟨n - 1, by have := hn1 hc24; rw [show n - 1 + 1 = n by omega]; exact kM hc24, by omega⟩, by show a + (n - 1) + 1 < a + n + 1; have := hn1 hc24; omega, StLe.mk [] rfl rfl ⟨⟨_, rfl, by rfl, rfl⟩, ⟨_, rfl, by rfl, rfl⟩, ⟨_, rfl, by (have := hn1 hc24; show AV.i64 _ = AV.i64 ((n - 1 : Nat) : Int); congr 1; omega), rfl⟩, trivial⟩ ⟨⟨_, _, rfl, rfl, rfl, rfl, id, rfl⟩, ⟨_, _, rfl, rfl, rfl, rfl, id, rfl⟩, trivial⟩⟩
  ·simp only [decide_eq_false_iff_not] at hc24
   refine .region <| .m rfl rfl <| .x (tY rfl rfl ⟨by omega, by omega⟩) rfl <| .s rfl rfl <| .nil ?_
   first
   | exact ⟨.inr ⟨(a - m * 2 ^ n, (n : Int)), wR a m _ (sT hc24), by show (-1 : Int) ≤ n; omega, by show (n : Int) ≤ 4000; omega, by show a - m * 2 ^ n < m * 2 ^ ((n : Int) + 1).toNat; rw [show ((n : Int) + 1).toNat = n + 1 by omega]; have := two_step m n; omega, Nat.le_trans (cX (Nat.sub_le _ _)) ha⟩, by show a - m * 2 ^ n + ((n : Int) + 1).toNat < a + n + 1; have := jI m n; have := sT hc24; omega, StLe.mk [(1000, 1016)] rfl rfl ⟨⟨_, rfl, by rfl, rfl⟩, ⟨_, rfl, by rfl, rfl⟩, ⟨_, rfl, by rfl, rfl⟩, trivial⟩ ⟨⟨_, _, rfl, rfl, rfl, rfl, id, rfl⟩, ⟨_, _, rfl, rfl, rfl, rfl, id, rfl⟩, trivial⟩⟩
   | exact ⟨.inl ⟨n - 1, by have := hn1 hc24; rw [show n - 1 + 1 = n by omega]; exact kM hc24, by omega⟩, by show a + (n - 1) + 1 < a + n + 1; have := hn1 hc24; omega, StLe.mk [] rfl rfl ⟨⟨_, rfl, by rfl, rfl⟩, ⟨_, rfl, by rfl, rfl⟩, ⟨_, rfl, by (have := hn1 hc24; show AV.i64 _ = AV.i64 ((n - 1 : Nat) : Int); congr 1; omega), rfl⟩, trivial⟩ ⟨⟨_, _, rfl, rfl, rfl, rfl, id, rfl⟩, ⟨_, _, rfl, rfl, rfl, rfl, id, rfl⟩, trivial⟩⟩
 ·try dsimp only
  replace hx1 : x % m = a % m := hx1
  replace hx2 : -1 ≤ n := hx2
  replace hx3 : n ≤ 4000 := hx3
  replace hx4 : x < m * 2 ^ (n + 1).toNat := hx4
  replace hx5 : dl x ≤ 200 := hx5
  have hlx := dX x
  refine .seq <| .r <| .m rfl rfl <| .x (gZ rfl rfl rfl) rfl <| .nil <| .cond rfl (fun hc16 => ?_) (fun hc16 => ?_)
  ·simp only [decide_eq_true_eq] at hc16
   refine .skip <| .block <| .r <| .m rfl rfl <| .m rfl rfl <| .as (.i64 ((n.toNat : Nat) : Int)) (congrArg AV.i64 (by omega)) <| .y (aZ (U := [(1008, some ⟨.aggI (dg (2 ^ (n.toNat))), 3, true⟩)]) [] [(1008, 1000)] (bO (n.toNat) (by omega)) Tryz.func112 (by kernel_rfl) rfl rfl rfl (⟨⟨_, rfl, rfl, rfl⟩, trivial⟩) (trivial) (⟨⟨1000, _, rfl, rfl, rfl, rfl, .inl rfl⟩, trivial⟩) (trivial) rfl) rfl <| .y (aZ (U := [(1016, some ⟨.aggI (dg (m * 2 ^ (n.toNat))), 3, true⟩)]) [(500, 501), (501, 1008)] [(1016, 1000)] (fQ m (2 ^ (n.toNat)) (by omega) (by have := wQ (n.toNat); omega)) Tryz.func73 (by kernel_rfl) rfl rfl rfl (⟨⟨_, rfl, rfl, rfl⟩, ⟨_, rfl, rfl, rfl⟩, trivial⟩) (⟨⟨_, _, rfl, rfl, rfl, rfl, nf, rfl⟩, ⟨_, _, rfl, rfl, rfl, rfl, nf, rfl⟩, trivial⟩) (⟨⟨1000, _, rfl, rfl, rfl, rfl, .inl rfl⟩, trivial⟩) (⟨nf, nf, trivial⟩) rfl) rfl <| .s rfl rfl <| .nil <| .r <| .m rfl rfl <| .m rfl rfl <| .x (aZ (U := []) [(500, 1000), (501, 1016)] [] (oV (x) (m * 2 ^ (n.toNat)) (by omega) (by have h1 := wQ (n.toNat); have h2 := eK m (2 ^ (n.toNat)); omega)) Tryz.func82 (by kernel_rfl) rfl rfl rfl (⟨⟨_, rfl, rfl, rfl⟩, ⟨_, rfl, rfl, rfl⟩, trivial⟩) (⟨⟨_, _, rfl, rfl, rfl, rfl, nf, rfl⟩, ⟨_, _, rfl, rfl, rfl, rfl, nf, rfl⟩, trivial⟩) (trivial) (⟨nf, nf, trivial⟩) rfl) rfl <| .x (gZ rfl rfl rfl) rfl <| .nil <| .cond rfl (fun hc24 => ?_) (fun hc24 => ?_)
   ·simp only [decide_eq_true_eq] at hc24
    refine .region <| .m rfl rfl <| .m rfl rfl <| .y (aZ (U := [(1024, some ⟨.aggI (dg (x - m * 2 ^ (n.toNat))), 3, true⟩)]) [(500, 1000), (501, 1016)] [(1024, 1000)] (gS (x) (m * 2 ^ (n.toNat)) (sT hc24) (by omega) (by have h1 := wQ (n.toNat); have h2 := eK m (2 ^ (n.toNat)); omega)) Tryz.func84 (by kernel_rfl) rfl rfl rfl (⟨⟨_, rfl, rfl, rfl⟩, ⟨_, rfl, rfl, rfl⟩, trivial⟩) (⟨⟨_, _, rfl, rfl, rfl, rfl, nf, rfl⟩, ⟨_, _, rfl, rfl, rfl, rfl, nf, rfl⟩, trivial⟩) (⟨⟨1000, _, rfl, rfl, rfl, rfl, .inl rfl⟩, trivial⟩) (⟨nf, nf, trivial⟩) rfl) rfl <| .s rfl rfl <| .nil ?_
    first
    | exact ⟨.inr ⟨(x - m * 2 ^ n.toNat, n), (wR x m _ (sT hc24)).trans hx1, hx2, hx3, by show x - m * 2 ^ n.toNat < m * 2 ^ (n + 1).toNat; omega, Nat.le_trans (cX (Nat.sub_le _ _)) hx5⟩, by show x - m * 2 ^ n.toNat + (n + 1).toNat < x + (n + 1).toNat; have := jI m n.toNat; have := sT hc24; omega, StLe.mk [(1000, 1024)] rfl rfl ⟨⟨_, rfl, by rfl, rfl⟩, ⟨_, rfl, by rfl, rfl⟩, ⟨_, rfl, by rfl, rfl⟩, trivial⟩ ⟨⟨_, _, rfl, rfl, rfl, rfl, id, rfl⟩, ⟨_, _, rfl, rfl, rfl, rfl, id, rfl⟩, trivial⟩⟩
    | exact ⟨.inr ⟨(x, n - 1), hx1, by show -1 ≤ n - 1; omega, by show n - 1 ≤ 4000; omega, by show x < m * 2 ^ (n - 1 + 1).toNat; rw [show (n - 1 + 1).toNat = n.toNat by omega]; exact kM hc24, hx5⟩, by show x + (n - 1 + 1).toNat < x + (n + 1).toNat; omega, StLe.mk [(1000, 1000)] rfl rfl ⟨⟨_, rfl, by rfl, rfl⟩, ⟨_, rfl, by rfl, rfl⟩, ⟨_, rfl, by rfl, rfl⟩, trivial⟩ ⟨⟨_, _, rfl, rfl, rfl, rfl, id, rfl⟩, ⟨_, _, rfl, rfl, rfl, rfl, id, rfl⟩, trivial⟩⟩
   ·simp only [decide_eq_false_iff_not] at hc24
    refine .region <| .m rfl rfl <| .x (tY rfl rfl ⟨by omega, by omega⟩) rfl <| .s rfl rfl <| .nil ?_
    first
    | exact ⟨.inr ⟨(x - m * 2 ^ n.toNat, n), (wR x m _ (sT hc24)).trans hx1, hx2, hx3, by show x - m * 2 ^ n.toNat < m * 2 ^ (n + 1).toNat; omega, Nat.le_trans (cX (Nat.sub_le _ _)) hx5⟩, by show x - m * 2 ^ n.toNat + (n + 1).toNat < x + (n + 1).toNat; have := jI m n.toNat; have := sT hc24; omega, StLe.mk [(1000, 1024)] rfl rfl ⟨⟨_, rfl, by rfl, rfl⟩, ⟨_, rfl, by rfl, rfl⟩, ⟨_, rfl, by rfl, rfl⟩, trivial⟩ ⟨⟨_, _, rfl, rfl, rfl, rfl, id, rfl⟩, ⟨_, _, rfl, rfl, rfl, rfl, id, rfl⟩, trivial⟩⟩
    | exact ⟨.inr ⟨(x, n - 1), hx1, by show -1 ≤ n - 1; omega, by show n - 1 ≤ 4000; omega, by show x < m * 2 ^ (n - 1 + 1).toNat; rw [show (n - 1 + 1).toNat = n.toNat by omega]; exact kM hc24, hx5⟩, by show x + (n - 1 + 1).toNat < x + (n + 1).toNat; omega, StLe.mk [(1000, 1000)] rfl rfl ⟨⟨_, rfl, by rfl, rfl⟩, ⟨_, rfl, by rfl, rfl⟩, ⟨_, rfl, by rfl, rfl⟩, trivial⟩ ⟨⟨_, _, rfl, rfl, rfl, rfl, id, rfl⟩, ⟨_, _, rfl, rfl, rfl, rfl, id, rfl⟩, trivial⟩⟩
  ·simp only [decide_eq_false_iff_not] at hc16
   refine .exit <| .r <| .m rfl rfl <| .s rfl rfl <| .nil <| .ret ?_
   have ex : x = a % m := by rw [show (n + 1).toNat = 0 by omega, Nat.pow_zero, Nat.mul_one] at hx4; rw [← hx1, Nat.mod_eq_of_lt hx4]
   exact yZ rfl (.inl rfl) rfl (by rw [ex]) ⟨by rw [← ex]; rfl, trivial⟩
end Go.Proofs.YtcnjekoidgefpaaGreatDoor
namespace Go.Proofs.YtcnjekoidgefpaaGreatDoor
open Go.RowKit
def oR : List UInt8 := [50, 55, 55, 52, 50, 51, 49, 55, 55, 55, 55, 51, 55, 50, 51, 53, 51, 53, 51, 53, 56, 53, 49, 57, 51, 55, 55, 57, 48, 56, 56, 51, 54, 52, 56, 52, 57, 51]
theorem length_digs : oR.length = 38 := rfl
def lvN : Nat → Nat
  | 0 => 0
  | i + 1 => lvN i * 10 + ((oR.getD i 0).toNat - 48)
theorem digs_ok (i : Nat) (h : i < 38) : 48 ≤ (oR.getD i 0).toNat ∧ (oR.getD i 0).toNat ≤ 57 := by
  have : ∀ j : Fin 38, 48 ≤ (oR.getD j.val 0).toNat ∧ (oR.getD j.val 0).toNat ≤ 57 := by decide
  exact this ⟨i, h⟩
theorem lv_lt (i : Nat) (h : i ≤ 38) : lvN i < 10 ^ i := by
  induction i with
  | zero => decide
  | succ i ih =>
    have := ih (by omega)
    have := digs_ok i (by omega)
    simp only [lvN]; rw [Nat.pow_succ]; omega
theorem lv_dl (i : Nat) (h : i ≤ 38) : dl (lvN i) ≤ 10 :=
  qX (Nat.lt_of_lt_of_le (lv_lt i h) (Nat.le_trans (Nat.pow_le_pow_right (by decide) h) (by decide)))
theorem lv_end : 2 ^ 252 + lvN 38 = scL := by decide +kernel
theorem dl_scL : dl scL ≤ 16 := qX (by decide)
theorem dg_zero : dg 0 = [] := by unfold dg; rw [fU]; rfl
theorem zM (s : List UInt8) (n : Nat) : leN (s.take n) (s.take n).length = leN s n := by
  rcases Nat.le_total n s.length with h | h
  · rw [List.length_take, Nat.min_eq_left h]
    exact uS _ _ _ fun i hi => by rw [List.getD_eq_getElem?_getD, List.getElem?_take, if_pos hi, ← List.getD_eq_getElem?_getD]
  · rw [List.take_of_length_le h]
    have := leN_over s s.length (n - s.length) (Nat.le_refl _)
    rw [show s.length + (n - s.length) = n by omega] at this
    exact this.symm
theorem dl_leN (s : List UInt8) (n : Nat) : dl (leN s n) ≤ n := qX (Nat.lt_of_lt_of_le (cU s n) (Nat.pow_le_pow_left (by decide) n))
set_option maxHeartbeats 1000000 in
set_option maxRecDepth 100000 in
theorem L_ev  : kZ Tryz.prog 70 [] [] (.sl 1000 0 (dl scL) 1) [(1000, some ⟨.aggI (dg scL), 3, true⟩)] := by
 refine mt (nt := 24) Tryz.func70 rfl rfl rfl <| .r <| .s rfl rfl <| .nil <| .r <| .y (dW (z := 1) (c := .aggI []) Tryz.underlying38 inf3 rfl) rfl <| .s rfl rfl <| .nil <| .seq <| .r <| .y (vZ (us := [_, _, _, _, _, _, _, _, _, _, _, _, _, _, _, _, _, _, _, _, _, _, _, _, _, _, _, _, _, _, _, _, _, _, _, _, _, _]) (c := .aggB [_, _, _, _, _, _, _, _, _, _, _, _, _, _, _, _, _, _, _, _, _, _, _, _, _, _, _, _, _, _, _, _, _, _, _, _, _, _]) Tryz.underlying25 inf5 rfl (by decide) (by decide) ⟨rfl, rfl, rfl, rfl, rfl, rfl, rfl, rfl, rfl, rfl, rfl, rfl, rfl, rfl, rfl, rfl, rfl, rfl, rfl, rfl, rfl, rfl, rfl, rfl, rfl, rfl, rfl, rfl, rfl, rfl, rfl, rfl, rfl, rfl, rfl, rfl, rfl, rfl, rfl, rfl, rfl, rfl, rfl, rfl, rfl, rfl, rfl, rfl, rfl, rfl, rfl, rfl, rfl, rfl, rfl, rfl, rfl, rfl, rfl, rfl, rfl, rfl, rfl, rfl, rfl, rfl, rfl, rfl, rfl, rfl, rfl, rfl, rfl, rfl, rfl, rfl, rfl, rfl, rfl, rfl, rfl, rfl, rfl, rfl, rfl, rfl, rfl, rfl, rfl, rfl, rfl, rfl, rfl, rfl, rfl, rfl, rfl, rfl, rfl, rfl, rfl, rfl, rfl, rfl, rfl, rfl, rfl, rfl, rfl, rfl, rfl, rfl, rfl, rfl, trivial⟩ rfl) rfl <| .as (.sl 1008 0 38 1) rfl <| .y (op_mark Tryz.underlying25 Tryz.underlying5 rfl (by omega) rfl rfl) rfl <| .x (rZ Tryz.underlying25 rfl) rfl <| .m rfl rfl <| .nil <| .block <| Ev.loop (ι := { j : Nat // j ≤ 38 }) (fun j => ⟨[(1, .sl 1000 0 (dl (lvN j.1)) 1), (6, .sl 1008 0 38 1), (7, .i64 38), (8, .i64 ((j.1 : Nat) : Int))], [(1000, some ⟨.aggI (dg (lvN j.1)), 3, true⟩), (1008, some ⟨.aggB oR, 5, false⟩)], 1016⟩) (fun j => 38 - j.1) ⟨0, Nat.zero_le _⟩ (StLe.mk [(1000, 1000), (1008, 1008)] rfl rfl ⟨⟨_, rfl, by (show AV.sl 1000 0 0 1 = AV.sl 1000 0 (dl 0) 1; rw [fU]), rfl⟩, ⟨_, rfl, by first | rfl | (simp only [AV.ren]; congr 1; omega), rfl⟩, ⟨_, rfl, by first | rfl | (simp only [AV.ren]; congr 1; omega), rfl⟩, ⟨_, rfl, by first | rfl | (simp only [AV.ren]; congr 1; omega), rfl⟩, trivial⟩ ⟨⟨_, _, rfl, rfl, by (show AV.aggI [] = AV.aggI (dg 0); rw [dg_zero]), rfl, id, rfl⟩, ⟨_, _, rfl, rfl, by first | rfl | (simp only [AV.ren]; congr 1; omega), rfl, id, rfl⟩, trivial⟩) ?_
 rintro ⟨j, hj⟩
 dsimp only
 have hd := digs_ok j
 have hl := lv_dl j hj
 have hld := length_digs
 refine .r <| .x (gZ rfl rfl rfl) rfl <| .nil <| .seq <| .cond rfl (fun hc9 => ?_) (fun hc9 => ?_)
 ·simp only [decide_eq_true_eq] at hc9
  refine .skip <| .seq <| .block <| .r <| .x (cY Tryz.underlying25 inf5.sz rfl rfl rfl (by omega)) rfl <| .x (fZ Tryz.underlying5 rfl rfl rfl rfl (by simp only [AV.len]; omega)) rfl <| .s rfl rfl <| .nil <| .region <| .m rfl rfl <| .y (aZ (U := [(1016, some ⟨.aggI (dg (10)), 3, true⟩)]) [] [(1016, 1000)] (kX 10 (by omega)) Tryz.func42 (by kernel_rfl) rfl rfl rfl (⟨⟨_, rfl, rfl, rfl⟩, trivial⟩) (trivial) (⟨⟨1000, _, rfl, rfl, rfl, rfl, .inl rfl⟩, trivial⟩) (trivial) rfl) rfl <| .y (aZ (U := [(1024, some ⟨.aggI (dg (lvN j * 10)), 3, true⟩)]) [(500, 1000), (501, 1016)] [(1024, 1000)] (fQ (lvN j) 10 (by omega) (by have := qX (v := 10) (n := 1) (by decide); omega)) Tryz.func73 (by kernel_rfl) rfl rfl rfl (⟨⟨_, rfl, rfl, rfl⟩, ⟨_, rfl, rfl, rfl⟩, trivial⟩) (⟨⟨_, _, rfl, rfl, rfl, rfl, nf, rfl⟩, ⟨_, _, rfl, rfl, rfl, rfl, nf, rfl⟩, trivial⟩) (⟨⟨1000, _, rfl, rfl, rfl, rfl, .inl rfl⟩, trivial⟩) (⟨nf, nf, trivial⟩) rfl) rfl <| .m rfl rfl <| .x (vX Tryz.underlying5 Tryz.underlying3 rfl rfl) rfl <| .x (tY rfl rfl ⟨by omega, by omega⟩) rfl <| .as (.i64 ((((oR.getD j 0).toNat - 48 : Nat)) : Int)) (congrArg AV.i64 (by omega)) <| .y (aZ (U := [(1032, some ⟨.aggI (dg ((oR.getD j 0).toNat - 48)), 3, true⟩)]) [] [(1032, 1000)] (kX ((oR.getD j 0).toNat - 48) (by omega)) Tryz.func42 (by kernel_rfl) rfl rfl rfl (⟨⟨_, rfl, rfl, rfl⟩, trivial⟩) (trivial) (⟨⟨1000, _, rfl, rfl, rfl, rfl, .inl rfl⟩, trivial⟩) (trivial) rfl) rfl <| .y (aZ (U := [(1040, some ⟨.aggI (dg (lvN j * 10 + ((oR.getD j 0).toNat - 48))), 3, true⟩)]) [(500, 1024), (501, 1032)] [(1040, 1000)] (wU (lvN j * 10) ((oR.getD j 0).toNat - 48) (by have := eK (lvN j) 10; have := qX (v := 10) (n := 1) (by decide); omega) (by have := qX (v := (oR.getD j 0).toNat - 48) (n := 1) (by omega); omega)) Tryz.func72 (by kernel_rfl) rfl rfl rfl (⟨⟨_, rfl, rfl, rfl⟩, ⟨_, rfl, rfl, rfl⟩, trivial⟩) (⟨⟨_, _, rfl, rfl, rfl, rfl, nf, rfl⟩, ⟨_, _, rfl, rfl, rfl, rfl, nf, rfl⟩, trivial⟩) (⟨⟨1000, _, rfl, rfl, rfl, rfl, .inl rfl⟩, trivial⟩) (⟨nf, nf, trivial⟩) rfl) rfl <| .s rfl rfl <| .nil <| .region <| .x (jZ rfl rfl ⟨by omega, by omega⟩) rfl <| .m rfl rfl <| .nil ?_
  exact ⟨⟨j + 1, by omega⟩, by show 38 - (j + 1) < 38 - j; omega, StLe.mk [(1000, 1040), (1008, 1008)] rfl rfl ⟨⟨_, rfl, by first | rfl | (simp only [AV.ren]; congr 1; omega), rfl⟩, ⟨_, rfl, by first | rfl | (simp only [AV.ren]; congr 1; omega), rfl⟩, ⟨_, rfl, by first | rfl | (simp only [AV.ren]; congr 1; omega), rfl⟩, ⟨_, rfl, by first | rfl | (simp only [AV.ren]; congr 1; omega), rfl⟩, trivial⟩ ⟨⟨_, _, rfl, rfl, by first | rfl | (simp only [AV.ren]; congr 1; omega), rfl, id, rfl⟩, ⟨_, _, rfl, rfl, by first | rfl | (simp only [AV.ren]; congr 1; omega), rfl, id, rfl⟩, trivial⟩⟩
 ·simp only [decide_eq_false_iff_not] at hc9
  refine .exit ?_
  have ej : j = 38 := by omega
  refine Ev.weak (st2 := ⟨[(1, .sl 1000 0 (dl (lvN (38))) 1), (6, .sl 1008 0 38 1), (7, .i64 38), (8, .i64 (((38) : Nat) : Int))], [(1000, some ⟨.aggI (dg (lvN (38))), 3, true⟩), (1008, some ⟨.aggB oR, 5, false⟩)], 1016⟩) (StLe.mk [(1000, 1000), (1008, 1008)] rfl rfl ⟨⟨_, rfl, by (rw [ej]; rfl), rfl⟩, ⟨_, rfl, by first | (simp only [AV.ren]; done) | (simp only [AV.ren]; rw [ej]; done) | rfl, rfl⟩, ⟨_, rfl, by first | (simp only [AV.ren]; done) | (simp only [AV.ren]; rw [ej]; done) | rfl, rfl⟩, ⟨_, rfl, by first | (simp only [AV.ren]; done) | (simp only [AV.ren]; rw [ej]; done) | rfl, rfl⟩, trivial⟩ ⟨⟨_, _, rfl, rfl, by (rw [ej]; rfl), rfl, id, rfl⟩, ⟨_, _, rfl, rfl, by first | (simp only [AV.ren]; done) | (simp only [AV.ren]; rw [ej]; done) | rfl, rfl, id, rfl⟩, trivial⟩) <| .r <| .y (aZ (U := [(1016, some ⟨.aggI (dg (2 ^ 252)), 3, true⟩)]) [] [(1016, 1000)] (bO 252 (by omega)) Tryz.func112 (by kernel_rfl) rfl rfl rfl (⟨⟨_, rfl, rfl, rfl⟩, trivial⟩) (trivial) (⟨⟨1000, _, rfl, rfl, rfl, rfl, .inl rfl⟩, trivial⟩) (trivial) rfl) rfl <| .m rfl rfl <| .y (aZ (U := [(1024, some ⟨.aggI (dg (2 ^ 252 + lvN 38)), 3, true⟩)]) [(500, 1016), (501, 1000)] [(1024, 1000)] (wU (2 ^ 252) (lvN 38) (by have := wQ 252; omega) (by have := lv_dl 38 (by omega); omega)) Tryz.func72 (by kernel_rfl) rfl rfl rfl (⟨⟨_, rfl, rfl, rfl⟩, ⟨_, rfl, rfl, rfl⟩, trivial⟩) (⟨⟨_, _, rfl, rfl, rfl, rfl, nf, rfl⟩, ⟨_, _, rfl, rfl, rfl, rfl, nf, rfl⟩, trivial⟩) (⟨⟨1000, _, rfl, rfl, rfl, rfl, .inl rfl⟩, trivial⟩) (⟨nf, nf, trivial⟩) rfl) rfl <| .s rfl rfl <| .nil <| Ev.weak (st2 := ⟨[(0, .sl 1000 0 (dl (scL)) 1)], [(1000, some ⟨.aggI (dg (scL)), 3, true⟩)], 1008⟩) (StLe.mk [(1000, 1024)] rfl rfl ⟨⟨_, rfl, by (show AV.sl 1000 0 (dl (2 ^ 252 + lvN 38)) 1 = _; rw [lv_end]), rfl⟩, trivial⟩ ⟨⟨_, _, rfl, rfl, by (show AV.aggI (dg (2 ^ 252 + lvN 38)) = _; rw [lv_end]), rfl, id, rfl⟩, trivial⟩) <| .ret ?_
  exact yZ rfl (.inl rfl) rfl rfl ⟨rfl, trivial⟩
set_option maxHeartbeats 1000000 in
set_option maxRecDepth 100000 in
theorem redR_a (s : List UInt8) (hs : s.length ≤ 1000000) (h : leN (s.take 64) (s.take 64).length < scL) : kZ Tryz.prog 30 [.str s] [] (.str (bsN (leN s 64 % scL) 32)) [] := by
 refine mt (nt := 13) Tryz.func30 rfl rfl rfl <| .r <| .s rfl rfl <| .nil <| .seq <| .r <| .m rfl rfl <| .x (yX Tryz.underlying9 rfl) rfl <| .x (gZ rfl rfl rfl) rfl <| .nil <| .cond rfl (fun hc5 => ?_) (fun hc5 => ?_)
 ·simp only [decide_eq_true_eq] at hc5
  refine .region <| .m rfl rfl <| .x (wY Tryz.underlying9 rfl (xZ rfl rfl) (by simp only [AV.len]; omega)) rfl <| .s rfl rfl <| .nil <| .r <| .m rfl rfl <| .as (.str (s.take 64)) (by rfl) <| .y (aZ (U := [(1000, some ⟨.aggI (dg (leN (s.take 64) (s.take 64).length)), 3, true⟩)]) [] [(1000, 1000)] (qP (s.take 64) (by rw [List.length_take]; omega)) Tryz.func23 (by kernel_rfl) rfl rfl rfl (⟨⟨_, rfl, rfl, rfl⟩, trivial⟩) (trivial) (⟨⟨1000, _, rfl, rfl, rfl, rfl, .inl rfl⟩, trivial⟩) (trivial) rfl) rfl <| .y (aZ (U := [(1008, some ⟨.aggI (dg (scL)), 3, true⟩)]) [] [(1008, 1000)] (L_ev) Tryz.func70 (by kernel_rfl) rfl rfl rfl (trivial) (trivial) (⟨⟨1000, _, rfl, rfl, rfl, rfl, .inl rfl⟩, trivial⟩) (trivial) rfl) rfl <| .x (aZ (U := []) [(500, 1000), (501, 1008)] [] (mod_id (leN (s.take 64) (s.take 64).length) scL h (Nat.le_trans (dl_leN _ _) (by rw [List.length_take]; omega)) (by have := dl_scL; omega)) Tryz.func69 (by kernel_rfl) rfl rfl rfl (⟨⟨_, rfl, rfl, rfl⟩, ⟨_, rfl, rfl, rfl⟩, trivial⟩) (⟨⟨_, _, rfl, rfl, rfl, rfl, nf, rfl⟩, ⟨_, _, rfl, rfl, rfl, rfl, nf, rfl⟩, trivial⟩) (trivial) (⟨nf, nf, trivial⟩) rfl) rfl <| .x (aZ (U := []) [(500, 1000)] [] (gO (leN (s.take 64) (s.take 64).length) 32 (by omega)) Tryz.func68 (by kernel_rfl) rfl rfl rfl (⟨⟨_, rfl, rfl, rfl⟩, ⟨_, rfl, rfl, rfl⟩, trivial⟩) (⟨⟨_, _, rfl, rfl, rfl, rfl, nf, rfl⟩, trivial⟩) (trivial) (⟨nf, trivial⟩) rfl) rfl <| .s rfl rfl <| .nil <| .ret ?_
  exact yZ rfl (.inl rfl) rfl (congrArg AV.str (by rw [← zM s 64]; rw [Nat.mod_eq_of_lt h])) trivial
 ·simp only [decide_eq_false_iff_not] at hc5
  refine .skip <| .r <| .m rfl rfl <| .as (.str (s.take 64)) (by rw [List.take_of_length_le (by omega)]) <| .y (aZ (U := [(1000, some ⟨.aggI (dg (leN (s.take 64) (s.take 64).length)), 3, true⟩)]) [] [(1000, 1000)] (qP (s.take 64) (by rw [List.length_take]; omega)) Tryz.func23 (by kernel_rfl) rfl rfl rfl (⟨⟨_, rfl, rfl, rfl⟩, trivial⟩) (trivial) (⟨⟨1000, _, rfl, rfl, rfl, rfl, .inl rfl⟩, trivial⟩) (trivial) rfl) rfl <| .y (aZ (U := [(1008, some ⟨.aggI (dg (scL)), 3, true⟩)]) [] [(1008, 1000)] (L_ev) Tryz.func70 (by kernel_rfl) rfl rfl rfl (trivial) (trivial) (⟨⟨1000, _, rfl, rfl, rfl, rfl, .inl rfl⟩, trivial⟩) (trivial) rfl) rfl <| .x (aZ (U := []) [(500, 1000), (501, 1008)] [] (mod_id (leN (s.take 64) (s.take 64).length) scL h (Nat.le_trans (dl_leN _ _) (by rw [List.length_take]; omega)) (by have := dl_scL; omega)) Tryz.func69 (by kernel_rfl) rfl rfl rfl (⟨⟨_, rfl, rfl, rfl⟩, ⟨_, rfl, rfl, rfl⟩, trivial⟩) (⟨⟨_, _, rfl, rfl, rfl, rfl, nf, rfl⟩, ⟨_, _, rfl, rfl, rfl, rfl, nf, rfl⟩, trivial⟩) (trivial) (⟨nf, nf, trivial⟩) rfl) rfl <| .x (aZ (U := []) [(500, 1000)] [] (gO (leN (s.take 64) (s.take 64).length) 32 (by omega)) Tryz.func68 (by kernel_rfl) rfl rfl rfl (⟨⟨_, rfl, rfl, rfl⟩, ⟨_, rfl, rfl, rfl⟩, trivial⟩) (⟨⟨_, _, rfl, rfl, rfl, rfl, nf, rfl⟩, trivial⟩) (trivial) (⟨nf, trivial⟩) rfl) rfl <| .s rfl rfl <| .nil <| .ret ?_
  exact yZ rfl (.inl rfl) rfl (congrArg AV.str (by rw [← zM s 64]; rw [Nat.mod_eq_of_lt h])) trivial
set_option maxHeartbeats 1000000 in
set_option maxRecDepth 100000 in
theorem redR_b (s : List UInt8) (hs : s.length ≤ 1000000) (h : scL ≤ leN (s.take 64) (s.take 64).length) : kZ Tryz.prog 30 [.str s] [] (.str (bsN (leN s 64 % scL) 32)) [] := by
 refine mt (nt := 13) Tryz.func30 rfl rfl rfl <| .r <| .s rfl rfl <| .nil <| .seq <| .r <| .m rfl rfl <| .x (yX Tryz.underlying9 rfl) rfl <| .x (gZ rfl rfl rfl) rfl <| .nil <| .cond rfl (fun hc5 => ?_) (fun hc5 => ?_)
 ·simp only [decide_eq_true_eq] at hc5
  refine .region <| .m rfl rfl <| .x (wY Tryz.underlying9 rfl (xZ rfl rfl) (by simp only [AV.len]; omega)) rfl <| .s rfl rfl <| .nil <| .r <| .m rfl rfl <| .as (.str (s.take 64)) (by rfl) <| .y (aZ (U := [(1000, some ⟨.aggI (dg (leN (s.take 64) (s.take 64).length)), 3, true⟩)]) [] [(1000, 1000)] (qP (s.take 64) (by rw [List.length_take]; omega)) Tryz.func23 (by kernel_rfl) rfl rfl rfl (⟨⟨_, rfl, rfl, rfl⟩, trivial⟩) (trivial) (⟨⟨1000, _, rfl, rfl, rfl, rfl, .inl rfl⟩, trivial⟩) (trivial) rfl) rfl <| .y (aZ (U := [(1008, some ⟨.aggI (dg (scL)), 3, true⟩)]) [] [(1008, 1000)] (L_ev) Tryz.func70 (by kernel_rfl) rfl rfl rfl (trivial) (trivial) (⟨⟨1000, _, rfl, rfl, rfl, rfl, .inl rfl⟩, trivial⟩) (trivial) rfl) rfl <| .y (aZ (U := [(1016, some ⟨.aggI (dg (leN (s.take 64) (s.take 64).length % scL)), 3, true⟩)]) [(500, 1000), (501, 1008)] [(1016, 1000)] (mod_new (leN (s.take 64) (s.take 64).length) scL h iJ (Nat.le_trans (dl_leN _ _) (by rw [List.length_take]; omega)) (by have := dl_scL; omega)) Tryz.func69 (by kernel_rfl) rfl rfl rfl (⟨⟨_, rfl, rfl, rfl⟩, ⟨_, rfl, rfl, rfl⟩, trivial⟩) (⟨⟨_, _, rfl, rfl, rfl, rfl, nf, rfl⟩, ⟨_, _, rfl, rfl, rfl, rfl, nf, rfl⟩, trivial⟩) (⟨⟨1000, _, rfl, rfl, rfl, rfl, .inl rfl⟩, trivial⟩) (⟨nf, nf, trivial⟩) rfl) rfl <| .x (aZ (U := []) [(500, 1016)] [] (gO (leN (s.take 64) (s.take 64).length % scL) 32 (by omega)) Tryz.func68 (by kernel_rfl) rfl rfl rfl (⟨⟨_, rfl, rfl, rfl⟩, ⟨_, rfl, rfl, rfl⟩, trivial⟩) (⟨⟨_, _, rfl, rfl, rfl, rfl, nf, rfl⟩, trivial⟩) (trivial) (⟨nf, trivial⟩) rfl) rfl <| .s rfl rfl <| .nil <| .ret ?_
  exact yZ rfl (.inl rfl) rfl (congrArg AV.str (by rw [← zM s 64])) trivial
 ·simp only [decide_eq_false_iff_not] at hc5
  refine .skip <| .r <| .m rfl rfl <| .as (.str (s.take 64)) (by rw [List.take_of_length_le (by omega)]) <| .y (aZ (U := [(1000, some ⟨.aggI (dg (leN (s.take 64) (s.take 64).length)), 3, true⟩)]) [] [(1000, 1000)] (qP (s.take 64) (by rw [List.length_take]; omega)) Tryz.func23 (by kernel_rfl) rfl rfl rfl (⟨⟨_, rfl, rfl, rfl⟩, trivial⟩) (trivial) (⟨⟨1000, _, rfl, rfl, rfl, rfl, .inl rfl⟩, trivial⟩) (trivial) rfl) rfl <| .y (aZ (U := [(1008, some ⟨.aggI (dg (scL)), 3, true⟩)]) [] [(1008, 1000)] (L_ev) Tryz.func70 (by kernel_rfl) rfl rfl rfl (trivial) (trivial) (⟨⟨1000, _, rfl, rfl, rfl, rfl, .inl rfl⟩, trivial⟩) (trivial) rfl) rfl <| .y (aZ (U := [(1016, some ⟨.aggI (dg (leN (s.take 64) (s.take 64).length % scL)), 3, true⟩)]) [(500, 1000), (501, 1008)] [(1016, 1000)] (mod_new (leN (s.take 64) (s.take 64).length) scL h iJ (Nat.le_trans (dl_leN _ _) (by rw [List.length_take]; omega)) (by have := dl_scL; omega)) Tryz.func69 (by kernel_rfl) rfl rfl rfl (⟨⟨_, rfl, rfl, rfl⟩, ⟨_, rfl, rfl, rfl⟩, trivial⟩) (⟨⟨_, _, rfl, rfl, rfl, rfl, nf, rfl⟩, ⟨_, _, rfl, rfl, rfl, rfl, nf, rfl⟩, trivial⟩) (⟨⟨1000, _, rfl, rfl, rfl, rfl, .inl rfl⟩, trivial⟩) (⟨nf, nf, trivial⟩) rfl) rfl <| .x (aZ (U := []) [(500, 1016)] [] (gO (leN (s.take 64) (s.take 64).length % scL) 32 (by omega)) Tryz.func68 (by kernel_rfl) rfl rfl rfl (⟨⟨_, rfl, rfl, rfl⟩, ⟨_, rfl, rfl, rfl⟩, trivial⟩) (⟨⟨_, _, rfl, rfl, rfl, rfl, nf, rfl⟩, trivial⟩) (trivial) (⟨nf, trivial⟩) rfl) rfl <| .s rfl rfl <| .nil <| .ret ?_
  exact yZ rfl (.inl rfl) rfl (congrArg AV.str (by rw [← zM s 64])) trivial
theorem redR (s : List UInt8) (hs : s.length ≤ 1000000) : kZ Tryz.prog 30 [.str s] [] (.str (bsN (leN s 64 % scL) 32)) [] := by
 by_cases h : leN (s.take 64) (s.take 64).length < scL
 ·exact redR_a s hs h
 ·exact redR_b s hs (by omega)
theorem cmp_flag (a b : Nat) : decide (cmpN a b < 0) = decide (a < b) := by
 by_cases c : a < b
 ·rw [cmp_less c, decide_eq_true c]; rfl
 ·have := cmp_not (show b ≤ a by omega)
  rw [decide_eq_false c, decide_eq_false (by omega)]
set_option maxHeartbeats 1000000 in
set_option maxRecDepth 100000 in
theorem fitsR (s : List UInt8) (hs : s.length = 32) : kZ Tryz.prog 37 [.str s] [] (.bool (decide (leN s 32 < scL))) [] := by
 refine mt (nt := 8) Tryz.func37 rfl rfl rfl <| .r <| .s rfl rfl <| .nil <| .r <| .m rfl rfl <| .y (aZ (U := [(1000, some ⟨.aggI (dg (leN s s.length)), 3, true⟩)]) [] [(1000, 1000)] (qP s (by omega)) Tryz.func23 (by kernel_rfl) rfl rfl rfl (⟨⟨_, rfl, rfl, rfl⟩, trivial⟩) (trivial) (⟨⟨1000, _, rfl, rfl, rfl, rfl, .inl rfl⟩, trivial⟩) (trivial) rfl) rfl <| .y (aZ (U := [(1008, some ⟨.aggI (dg (scL)), 3, true⟩)]) [] [(1008, 1000)] (L_ev) Tryz.func70 (by kernel_rfl) rfl rfl rfl (trivial) (trivial) (⟨⟨1000, _, rfl, rfl, rfl, rfl, .inl rfl⟩, trivial⟩) (trivial) rfl) rfl <| .x (aZ (U := []) [(500, 1000), (501, 1008)] [] (oV (leN s s.length) scL (by have := dl_leN s s.length; omega) (by have := dl_scL; omega)) Tryz.func82 (by kernel_rfl) rfl rfl rfl (⟨⟨_, rfl, rfl, rfl⟩, ⟨_, rfl, rfl, rfl⟩, trivial⟩) (⟨⟨_, _, rfl, rfl, rfl, rfl, nf, rfl⟩, ⟨_, _, rfl, rfl, rfl, rfl, nf, rfl⟩, trivial⟩) (trivial) (⟨nf, nf, trivial⟩) rfl) rfl <| .x (gZ rfl rfl rfl) rfl <| .s rfl rfl <| .nil <| .ret ?_
 exact yZ rfl (.inl rfl) rfl (congrArg AV.bool (by rw [← hs]; exact cmp_flag _ _)) trivial
end Go.Proofs.YtcnjekoidgefpaaGreatDoor
