/-
  Texts of this claim.
-/
import Derived.Test.YtdmlpblaelfdmaaGreatDoorGFP
import Derived.Test.YtdmlpblaelfdmaaGreatDoorGF1P
import Derived.Test.YtdmlpblaelfdmaaGreatDoorGZ1P
namespace Go.Proofs.YtdmlpblaelfdmaaGreatDoor
/-! Primes: Fermat, and a test by a great prime factor of N - 1. -/
def Prm (p : Nat) : Prop := 1 < p ∧ ∀ d, d ∣ p → d = 1 ∨ d = p
theorem Prm.coprime {p k : Nat} (hp : Prm p) (h : ¬ p ∣ k) : Nat.gcd p k = 1 := by
  rcases hp.2 (Nat.gcd p k) (Nat.gcd_dvd_left p k) with h1 | h1
  · exact h1
  · exact absurd (h1 ▸ Nat.gcd_dvd_right p k) h
theorem Prm.split {p a b : Nat} (hp : Prm p) (h : p ∣ a * b) : p ∣ a ∨ p ∣ b := by
  by_cases ha : p ∣ a
  · exact .inl ha
  · exact .inr (Nat.Coprime.dvd_of_dvd_mul_left (hp.coprime ha) h)
/-- Binomials. -/
def bin : Nat → Nat → Nat
  | _, 0 => 1
  | 0, _ + 1 => 0
  | n + 1, k + 1 => bin n k + bin n (k + 1)
/-- The sum of bin n k * a^k, k < m. -/
def bs (n a : Nat) : Nat → Nat
  | 0 => 0
  | m + 1 => bs n a m + bin n m * a ^ m
/-- Powers modulo n, by squares. -/
def pm (n : Nat) : Nat → Nat → Nat → Nat
  | 0, _, _ => 1 % n
  | f + 1, a, e => if e % 2 = 1 then a * pm n f (a * a % n) (e / 2) % n else pm n f (a * a % n) (e / 2)
theorem pm_spec (n : Nat) (f a e : Nat) (h : e < 2 ^ f) : pm n f a e = a ^ e % n := by
  induction f generalizing a e with
  | zero => have : e = 0 := by simpa using h
            subst this; rfl
  | succ f ih =>
    have ih := ih (a * a % n) (e / 2) (by rw [Nat.pow_succ] at h; omega)
    have e2 : (a * a % n) ^ (e / 2) % n = a ^ (2 * (e / 2)) % n := by rw [← Nat.pow_mod, Nat.pow_mul, Nat.pow_two]
    simp only [pm]
    rw [ih, e2]
    split
    · rename_i h1
      conv => rhs; rw [show e = 2 * (e / 2) + 1 by omega, Nat.pow_succ']
      rw [Nat.mul_mod, Nat.mod_mod, ← Nat.mul_mod]
    · rename_i h1
      rw [show 2 * (e / 2) = e by omega]
end Go.Proofs.YtdmlpblaelfdmaaGreatDoor
namespace Go.Proofs.YtdmlpblaelfdmaaGreatDoor
open Go.RowKit
end Go.Proofs.YtdmlpblaelfdmaaGreatDoor
namespace Go.Proofs.YtdmlpblaelfdmaaGreatDoor
open Go.RowKit
theorem pw_add (a m n : Nat) : (a ^ m % fp) * (a ^ n % fp) % fp = a ^ (m + n) % fp := by rw [← Nat.mul_mod, Nat.pow_add]
theorem pw_add1 (a m : Nat) : (a ^ m % fp) * a % fp = a ^ (m + 1) % fp := by rw [Nat.mod_mul_mod, Nat.pow_succ]
theorem pw_pow (a m k : Nat) : (a ^ m % fp) ^ k % fp = a ^ (m * k) % fp := by rw [← Nat.pow_mod, Nat.pow_mul]
theorem sq_start (x : Nat) (h : x < fp) : x = x ^ (2 ^ 0) % fp := by rw [Nat.pow_zero, Nat.pow_one, Nat.mod_eq_of_lt h]
theorem sq_step (x j : Nat) : (x ^ (2 ^ j) % fp) * (x ^ (2 ^ j) % fp) % fp = x ^ (2 ^ (j + 1)) % fp := by
  rw [pw_add, Nat.pow_succ, Nat.mul_two]
theorem ones_start (a : Nat) (h : a < fp) : a = a ^ (2 ^ 1 - 1) % fp := by rw [show 2 ^ 1 - 1 = 1 from rfl, Nat.pow_one, Nat.mod_eq_of_lt h]
theorem ones_exp (h : Nat) : (2 ^ h - 1) * 2 ^ h + (2 ^ h - 1) = 2 ^ (2 * h) - 1 := by
  have e : 2 ^ (2 * h) = 2 ^ h * 2 ^ h := by rw [← Nat.pow_add, Nat.two_mul]
  have p : 0 < 2 ^ h := Nat.pow_pos (by decide)
  rw [e]
  generalize 2 ^ h = x at *
  obtain ⟨y, rfl⟩ : ∃ y, x = y + 1 := ⟨x - 1, by omega⟩
  rw [Nat.add_sub_cancel, Nat.add_mul, Nat.mul_add]; omega
theorem ones_odd (h : Nat) : (2 ^ (2 * h) - 1 + (2 ^ (2 * h) - 1)) + 1 = 2 ^ (2 * h + 1) - 1 := by
  have p : 0 < 2 ^ (2 * h) := Nat.pow_pos (by decide)
  rw [Nat.pow_succ]; omega
set_option maxHeartbeats 1000000 in
set_option maxRecDepth 100000 in
theorem squares_ev (x n : Nat) (hx : x < fp) (hn : n ≤ 1000) : Meets Tryz.prog 131 [.agg64 (fl x), .i64 (n : Int)] [] (.agg64 (fl (x ^ (2 ^ n) % fp))) [] := by
 refine meets_of_ev (nt := 12) Tryz.func131 rfl rfl (Nat.le_of_ble_eq_true rfl) ?_
 refine .seq ?_
 refine .region ?_
 refine .a (op_boxRow rfl rfl) trivial rfl ?_
 refine .a (op_allocRow zero115 rel_zero115 rfl) trivial rfl ?_
 refine .nil ?_
 show Ev _ _ _ _ _
 refine .seq ?_
 refine .seq ?_
 refine .region ?_
 refine .q (op_move rfl) trivial rfl ?_
 refine .q (op_move rfl) trivial rfl ?_
 refine .nil ?_
 show Ev _ _ _ _ _
 refine .block ?_
 refine Ev.loop (ι := { j : Nat // j ≤ n }) (fun j => ⟨[(2, .ptr 1000 0), (4, .ptr 1008 0), (5, .i64 (n : Int)), (6, .i64 ((j.1 : Nat) : Int))], [(1000, some ⟨.agg64 (fl (x ^ (2 ^ j.1) % fp)), 115, true⟩), (1008, some ⟨.agg64 (List.replicate 4 0), 115, true⟩)], 1016⟩) (fun j => n - j.1) ⟨0, Nat.zero_le _⟩ (StLe.mk [(1000, 1000), (1008, 1008)] rfl rfl ⟨⟨_, rfl, by first | rfl | (simp only [AV.ren]; congr 1; omega), rfl⟩, ⟨_, rfl, by first | rfl | (simp only [AV.ren]; congr 1; omega), rfl⟩, ⟨_, rfl, by first | rfl | (simp only [AV.ren]; congr 1; omega), rfl⟩, ⟨_, rfl, by first | rfl | (simp only [AV.ren]; congr 1; omega), rfl⟩, trivial⟩ ⟨⟨_, _, rfl, rfl, by (show AV.agg64 (fl x) = _; exact congrArg (fun z => AV.agg64 (fl z)) (sq_start x hx)), rfl, id, rfl⟩, ⟨_, _, rfl, rfl, by first | rfl | (simp only [AV.ren]; congr 1; omega), rfl, id, rfl⟩, trivial⟩) ?_
 rintro ⟨j, hj⟩
 dsimp only
 refine .seq ?_
 refine .region ?_
 refine .q (op_cmpI rfl rfl rfl) trivial rfl ?_
 refine .nil ?_
 show Ev _ _ _ _ _
 refine .seq ?_
 refine .cond rfl (fun hc7 => ?_) (fun hc7 => ?_)
 ·simp only [decide_eq_true_eq] at hc7
  refine .skip ?_
  show Ev _ _ _ _ _
  refine .seq ?_
  refine .block ?_
  refine .region ?_
  refine .q (op_loadRow Tryz.underlying115 rfl sz115 rfl rfl rfl (rfl)) trivial rfl ?_
  refine .q (op_call (U := []) [] [] (fsquare_ev _ (fmod_lt _)) Tryz.func126 (by kernel_rfl) rfl rfl rfl (⟨⟨_, rfl, rfl, rfl⟩, trivial⟩) (trivial) (trivial) (trivial) rfl) trivial rfl ?_
  refine .w (op_storeRow sz115 rfl rfl rfl rfl rfl (rfl) (rfl)) trivial rfl ?_
  refine .nil ?_
  show Ev _ _ _ _ _
  refine .region ?_
  refine .q (op_addI rfl rfl ⟨by omega, by omega⟩) trivial rfl ?_
  refine .q (op_move rfl) trivial rfl ?_
  refine .nil ?_
  exact ⟨⟨j + 1, by omega⟩, by show n - (j + 1) < n - j; omega, StLe.mk [(1000, 1000), (1008, 1008)] rfl rfl ⟨⟨_, rfl, by first | rfl | (simp only [AV.ren]; congr 1; omega), rfl⟩, ⟨_, rfl, by first | rfl | (simp only [AV.ren]; congr 1; omega), rfl⟩, ⟨_, rfl, by first | rfl | (simp only [AV.ren]; congr 1; omega), rfl⟩, ⟨_, rfl, by first | rfl | (simp only [AV.ren]; congr 1; omega), rfl⟩, trivial⟩ ⟨⟨_, _, rfl, rfl, by exact congrArg (fun z => AV.agg64 (fl z)) (sq_step x j), rfl, id, rfl⟩, ⟨_, _, rfl, rfl, by first | rfl | (simp only [AV.ren]; congr 1; omega), rfl, id, rfl⟩, trivial⟩⟩
 ·simp only [decide_eq_false_iff_not] at hc7
  refine .exit ?_
  show Ev _ _ _ _ _
  have ej : j = n := by omega
  refine Ev.weak (st2 := ⟨[(2, .ptr 1000 0), (4, .ptr 1008 0), (5, .i64 (n : Int)), (6, .i64 (((n) : Nat) : Int))], [(1000, some ⟨.agg64 (fl (x ^ (2 ^ (n)) % fp)), 115, true⟩), (1008, some ⟨.agg64 (List.replicate 4 0), 115, true⟩)], 1016⟩) (StLe.mk [(1000, 1000), (1008, 1008)] rfl rfl ⟨⟨_, rfl, by first | (simp only [AV.ren]; done) | (simp only [AV.ren]; rw [ej]; done) | rfl, rfl⟩, ⟨_, rfl, by first | (simp only [AV.ren]; done) | (simp only [AV.ren]; rw [ej]; done) | rfl, rfl⟩, ⟨_, rfl, by first | (simp only [AV.ren]; done) | (simp only [AV.ren]; rw [ej]; done) | rfl, rfl⟩, ⟨_, rfl, by first | (simp only [AV.ren]; done) | (simp only [AV.ren]; rw [ej]; done) | rfl, rfl⟩, trivial⟩ ⟨⟨_, _, rfl, rfl, by first | (simp only [AV.ren]; done) | (simp only [AV.ren]; rw [ej]; done) | rfl, rfl, id, rfl⟩, ⟨_, _, rfl, rfl, by first | (simp only [AV.ren]; done) | (simp only [AV.ren]; rw [ej]; done) | rfl, rfl, id, rfl⟩, trivial⟩) ?_
  refine .seq ?_
  refine .region ?_
  refine .q (op_loadRow Tryz.underlying115 rfl sz115 rfl rfl rfl (rfl)) trivial rfl ?_
  refine .w (op_storeRow sz115 rfl rfl rfl rfl rfl (rfl) (rfl)) trivial rfl ?_
  refine .nil ?_
  show Ev _ _ _ _ _
  refine .ret ?_
  show RetOk _ _ _ _ _ _ _
  exact retc1 rfl (.inl rfl) ⟨_, _, _, _, rfl, rfl, rfl, rfl, (rfl), Tryz.underlying115, rfl, sz115⟩ trivial
set_option maxHeartbeats 1000000 in
set_option maxRecDepth 100000 in
theorem ones_ev (a : Nat) (ha : a < fp) (n : Nat) (h1 : 1 ≤ n) (h2 : n ≤ 1000) : Meets Tryz.prog 132 [.agg64 (fl a), .i64 (n : Int)] [] (.agg64 (fl (a ^ (2 ^ n - 1) % fp))) [] := by
 revert h1 h2
 refine Nat.strongRecOn n ?_
 clear n
 intro n ih h1 h2
 refine meets_of_ev (nt := 28) Tryz.func132 rfl rfl (Nat.le_of_ble_eq_true rfl) ?_
 refine .seq ?_
 refine .region ?_
 refine .a (op_boxRow rfl rfl) trivial rfl ?_
 refine .a (op_allocRow zero115 rel_zero115 rfl) trivial rfl ?_
 refine .nil ?_
 show Ev _ _ _ _ _
 refine .seq ?_
 refine .seq ?_
 refine .region ?_
 refine .q (op_move rfl) trivial rfl ?_
 refine .q (op_cmpI rfl rfl rfl) trivial rfl ?_
 refine .nil ?_
 show Ev _ _ _ _ _
 refine .cond rfl (fun hc8 => ?_) (fun hc8 => ?_)
 ·simp only [beq_iff_eq] at hc8
  refine .seq ?_
  refine .region ?_
  refine .q (op_loadRow Tryz.underlying115 rfl sz115 rfl rfl rfl (rfl)) trivial rfl ?_
  refine .w (op_storeRow sz115 rfl rfl rfl rfl rfl (rfl) (rfl)) trivial rfl ?_
  refine .nil ?_
  show Ev _ _ _ _ _
  refine .ret ?_
  show RetOk _ _ _ _ _ _ _
  first
   | (exact retc1 rfl (.inl rfl) ⟨_, _, _, _, rfl, rfl, rfl, rfl, (rfl), Tryz.underlying115, rfl, sz115⟩ trivial)
   | (refine Eq.mp (congrArg (fun z => RetOk _ _ _ (AV.agg64 (fl z)) _ _ _) (show a = a ^ (2 ^ n - 1) % fp by rw [show n = 1 by omega]; exact ones_start a ha)) ?_; exact retc1 rfl (.inl rfl) ⟨_, _, _, _, rfl, rfl, rfl, rfl, (rfl), Tryz.underlying115, rfl, sz115⟩ trivial)
   | (refine Eq.mp (congrArg (fun z => RetOk _ _ _ (AV.agg64 (fl (a ^ (2 ^ z - 1) % fp))) _ _ _) (show 2 * (n / 2) = n by omega)) ?_; exact retc1 rfl (.inl rfl) ⟨_, _, _, _, rfl, rfl, rfl, rfl, (rfl), Tryz.underlying115, rfl, sz115⟩ trivial)
 ·simp only [ne_eq, beq_eq_false_iff_ne] at hc8
  refine .skip ?_
  show Ev _ _ _ _ _
  refine .seq ?_
  refine .region ?_
  refine .q (op_loadRow Tryz.underlying115 rfl sz115 rfl rfl rfl (rfl)) trivial rfl ?_
  refine .q (op_move rfl) trivial rfl ?_
  refine .q (op_quoI rfl rfl ⟨by omega, ⟨by omega, by omega⟩, by omega⟩) trivial rfl ?_
  refine .as (.i64 ((n / 2 : Nat) : Int)) (congrArg AV.i64 (by omega)) ?_
  refine .q (op_call (U := []) [] [] (ih (n / 2) (by omega) (by omega) (by omega)) Tryz.func132 (by kernel_rfl) rfl rfl rfl (⟨⟨_, rfl, rfl, rfl⟩, ⟨_, rfl, rfl, rfl⟩, trivial⟩) (trivial) (trivial) (trivial) rfl) trivial rfl ?_
  refine .as (.agg64 (fl (a ^ (2 ^ (n / 2) - 1) % fp))) rfl ?_
  refine .a (op_allocRow zero115 rel_zero115 rfl) trivial rfl ?_
  refine .w (op_storeRow sz115 rfl rfl rfl rfl rfl (rfl) (rfl)) trivial rfl ?_
  refine .nil ?_
  show Ev _ _ _ _ _
  refine .seq ?_
  refine .drawn [[], [], [1], [0, 1, 2], [], [0, 1, 2, 3, 4], [], [0, 1, 2, 3, 4, 5, 6]] [0, 3, 4, 5, 6, 7] [7] (by kernel_rfl) (by kernel_rfl) rfl ?_
  show DK _ [0, 1, 2, 3, 4, 5, 6, 7] _ _ _
  refine .q rfl (op_loadRow Tryz.underlying115 rfl sz115 rfl rfl rfl (rfl)) trivial ?_
  refine .q rfl (op_move rfl) trivial ?_
  refine .q rfl (op_quoI rfl rfl ⟨by omega, ⟨by omega, by omega⟩, by omega⟩) trivial ?_
  refine .as (.i64 ((n / 2 : Nat) : Int)) (congrArg AV.i64 (by omega)) ?_
  refine .q rfl (op_call (U := []) [] [] (squares_ev (a ^ (2 ^ (n / 2) - 1) % fp) (n / 2) (fmod_lt _) (by omega)) Tryz.func131 (by kernel_rfl) rfl rfl rfl (⟨⟨_, rfl, rfl, rfl⟩, ⟨_, rfl, rfl, rfl⟩, trivial⟩) (trivial) (trivial) (trivial) rfl) trivial ?_
  refine .as (.agg64 (fl (a ^ ((2 ^ (n / 2) - 1) * 2 ^ (n / 2)) % fp))) (congrArg (fun z => AV.agg64 (fl z)) (pw_pow a _ _)) ?_
  refine .q rfl (op_loadRow Tryz.underlying115 rfl sz115 rfl rfl rfl (rfl)) trivial ?_
  refine .q rfl (op_call (U := []) [] [] (fmul_ev _ _ (fmod_lt _) (fmod_lt _)) Tryz.func92 (by kernel_rfl) rfl rfl rfl (⟨⟨_, rfl, rfl, rfl⟩, ⟨_, rfl, rfl, rfl⟩, trivial⟩) (trivial) (trivial) (trivial) rfl) trivial ?_
  refine .as (.agg64 (fl (a ^ (2 ^ (2 * (n / 2)) - 1) % fp))) (congrArg (fun z => AV.agg64 (fl z)) (by rw [pw_add, ones_exp])) ?_
  refine .a rfl (op_allocRow zero115 rel_zero115 rfl) trivial rfl rfl ?_
  refine .w rfl (op_storeRow sz115 rfl rfl rfl rfl rfl (rfl) (rfl)) trivial rfl rfl ?_
  refine .nil ?_
  show Ev _ _ _ _ _
  refine .seq ?_
  refine .seq ?_
  refine .region ?_
  refine .q (op_move rfl) trivial rfl ?_
  refine .q (op_remI rfl rfl ⟨by omega, by omega⟩) trivial rfl ?_
  refine .q (op_cmpI rfl rfl rfl) trivial rfl ?_
  refine .nil ?_
  show Ev _ _ _ _ _
  refine .cond rfl (fun hc22 => ?_) (fun hc22 => ?_)
  ·simp only [beq_iff_eq] at hc22
   refine .drawn [[], [0], [], [0, 1, 2], [0, 1, 2, 3]] [0, 1, 2, 3, 4] [4] (by kernel_rfl) (by kernel_rfl) rfl ?_
   show DK _ [0, 1, 2, 3, 4] _ _ _
   refine .q rfl (op_loadRow Tryz.underlying115 rfl sz115 rfl rfl rfl (rfl)) trivial ?_
   refine .q rfl (op_call (U := []) [] [] (fsquare_ev _ (fmod_lt _)) Tryz.func126 (by kernel_rfl) rfl rfl rfl (⟨⟨_, rfl, rfl, rfl⟩, trivial⟩) (trivial) (trivial) (trivial) rfl) trivial ?_
   refine .as (.agg64 (fl (a ^ ((2 ^ (2 * (n / 2)) - 1) + (2 ^ (2 * (n / 2)) - 1)) % fp))) (congrArg (fun z => AV.agg64 (fl z)) (pw_add a _ _)) ?_
   refine .q rfl (op_loadRow Tryz.underlying115 rfl sz115 rfl rfl rfl (rfl)) trivial ?_
   refine .q rfl (op_call (U := []) [] [] (fmul_ev _ _ (fmod_lt _) ha) Tryz.func92 (by kernel_rfl) rfl rfl rfl (⟨⟨_, rfl, rfl, rfl⟩, ⟨_, rfl, rfl, rfl⟩, trivial⟩) (trivial) (trivial) (trivial) rfl) trivial ?_
   refine .as (.agg64 (fl (a ^ (2 ^ n - 1) % fp))) (congrArg (fun z => AV.agg64 (fl z)) (by rw [pw_add1, ones_odd, show 2 * (n / 2) + 1 = n by omega])) ?_
   refine .w rfl (op_storeRow sz115 rfl rfl rfl rfl rfl (rfl) (rfl)) trivial rfl rfl ?_
   refine .nil ?_
   show Ev _ _ _ _ _
   refine .seq ?_
   refine .region ?_
   refine .q (op_loadRow Tryz.underlying115 rfl sz115 rfl rfl rfl (rfl)) trivial rfl ?_
   refine .w (op_storeRow sz115 rfl rfl rfl rfl rfl (rfl) (rfl)) trivial rfl ?_
   refine .nil ?_
   show Ev _ _ _ _ _
   refine .ret ?_
   show RetOk _ _ _ _ _ _ _
   first
    | (exact retc1 rfl (.inl rfl) ⟨_, _, _, _, rfl, rfl, rfl, rfl, (rfl), Tryz.underlying115, rfl, sz115⟩ trivial)
    | (refine Eq.mp (congrArg (fun z => RetOk _ _ _ (AV.agg64 (fl z)) _ _ _) (show a = a ^ (2 ^ n - 1) % fp by rw [show n = 1 by omega]; exact ones_start a ha)) ?_; exact retc1 rfl (.inl rfl) ⟨_, _, _, _, rfl, rfl, rfl, rfl, (rfl), Tryz.underlying115, rfl, sz115⟩ trivial)
    | (refine Eq.mp (congrArg (fun z => RetOk _ _ _ (AV.agg64 (fl (a ^ (2 ^ z - 1) % fp))) _ _ _) (show 2 * (n / 2) = n by omega)) ?_; exact retc1 rfl (.inl rfl) ⟨_, _, _, _, rfl, rfl, rfl, rfl, (rfl), Tryz.underlying115, rfl, sz115⟩ trivial)
  ·simp only [ne_eq, beq_eq_false_iff_ne] at hc22
   refine .skip ?_
   show Ev _ _ _ _ _
   refine .seq ?_
   refine .region ?_
   refine .q (op_loadRow Tryz.underlying115 rfl sz115 rfl rfl rfl (rfl)) trivial rfl ?_
   refine .w (op_storeRow sz115 rfl rfl rfl rfl rfl (rfl) (rfl)) trivial rfl ?_
   refine .nil ?_
   show Ev _ _ _ _ _
   refine .ret ?_
   show RetOk _ _ _ _ _ _ _
   first
    | (exact retc1 rfl (.inl rfl) ⟨_, _, _, _, rfl, rfl, rfl, rfl, (rfl), Tryz.underlying115, rfl, sz115⟩ trivial)
    | (refine Eq.mp (congrArg (fun z => RetOk _ _ _ (AV.agg64 (fl z)) _ _ _) (show a = a ^ (2 ^ n - 1) % fp by rw [show n = 1 by omega]; exact ones_start a ha)) ?_; exact retc1 rfl (.inl rfl) ⟨_, _, _, _, rfl, rfl, rfl, rfl, (rfl), Tryz.underlying115, rfl, sz115⟩ trivial)
    | (refine Eq.mp (congrArg (fun z => RetOk _ _ _ (AV.agg64 (fl (a ^ (2 ^ z - 1) % fp))) _ _ _) (show 2 * (n / 2) = n by omega)) ?_; exact retc1 rfl (.inl rfl) ⟨_, _, _, _, rfl, rfl, rfl, rfl, (rfl), Tryz.underlying115, rfl, sz115⟩ trivial)
theorem ones_gen (a : Nat) (ha : a < fp) (n : Nat) (h1 : 1 ≤ n) (h2 : n ≤ 1000) (e0 : Nat) (h0 : 2 ^ n - 1 = e0) : Meets Tryz.prog 132 [.agg64 (fl a), .i64 (n : Int)] [] (.agg64 (fl (a ^ e0 % fp))) [] := h0 ▸ ones_ev a ha n h1 h2
theorem pw_powE (a m k e : Nat) (h : m * k = e) : (a ^ m % fp) ^ k % fp = a ^ e % fp := by rw [pw_pow, h]
theorem pw_addE (a m k e : Nat) (h : m + k = e) : (a ^ m % fp) * (a ^ k % fp) % fp = a ^ e % fp := by rw [pw_add, h]
theorem inv_exp : (2 ^ 250 - 1) * 2 ^ 5 + ((1 + 1) * 2 ^ 2 + (1 + 1) + 1) = fp - 2 := by decide +kernel
set_option maxHeartbeats 1000000 in
set_option maxRecDepth 100000 in
theorem finvert_gen (a : Nat) (ha : a < fp) (e0 e1 e2 : Nat) (h0 : 2 ^ 250 - 1 = e0) (h1 : e0 * 2 ^ 5 = e1) (h2 : e1 + ((1 + 1) * 2 ^ 2 + (1 + 1) + 1) = e2) : Meets Tryz.prog 93 [.agg64 (fl a)] [] (.agg64 (fl (a ^ e2 % fp))) [] := by
 refine meets_of_ev (nt := 18) Tryz.func93 rfl rfl (Nat.le_of_ble_eq_true rfl) ?_
 refine .seq ?_
 refine .region ?_
 refine .a (op_boxRow rfl rfl) trivial rfl ?_
 refine .a (op_allocRow zero115 rel_zero115 rfl) trivial rfl ?_
 refine .nil ?_
 show Ev _ _ _ _ _
 refine .seq ?_
 refine .region ?_
 refine .q (op_loadRow Tryz.underlying115 rfl sz115 rfl rfl rfl (rfl)) trivial rfl ?_
 refine .q (op_call (U := []) [] [] (fsquare_ev a ha) Tryz.func126 (by kernel_rfl) rfl rfl rfl (⟨⟨_, rfl, rfl, rfl⟩, trivial⟩) (trivial) (trivial) (trivial) rfl) trivial rfl ?_
 refine .as (.agg64 (fl (a ^ (1 + 1) % fp))) (congrArg (fun z => AV.agg64 (fl z)) (by rw [Nat.pow_succ, Nat.pow_one])) ?_
 refine .a (op_allocRow zero115 rel_zero115 rfl) trivial rfl ?_
 refine .w (op_storeRow sz115 rfl rfl rfl rfl rfl (rfl) (rfl)) trivial rfl ?_
 refine .nil ?_
 show Ev _ _ _ _ _
 refine .seq ?_
 refine .drawn [[], [0], [], [0, 1, 2], [], [0, 1, 2, 3, 4], [], [0, 1, 2, 3, 4, 5, 6]] [0, 1, 2, 3, 4, 5, 6, 7] [7] (by kernel_rfl) (by kernel_rfl) rfl ?_
 show DK _ [0, 1, 2, 3, 4, 5, 6, 7] _ _ _
 refine .q rfl (op_loadRow Tryz.underlying115 rfl sz115 rfl rfl rfl (rfl)) trivial ?_
 refine .q rfl (op_call (U := []) [] [] (squares_ev (a ^ (1 + 1) % fp) 2 (fmod_lt _) (by decide)) Tryz.func131 (by kernel_rfl) rfl rfl rfl (⟨⟨_, rfl, rfl, rfl⟩, ⟨_, rfl, rfl, rfl⟩, trivial⟩) (trivial) (trivial) (trivial) rfl) trivial ?_
 refine .as (.agg64 (fl (a ^ ((1 + 1) * 2 ^ 2) % fp))) (congrArg (fun z => AV.agg64 (fl z)) (pw_pow a _ _)) ?_
 refine .q rfl (op_loadRow Tryz.underlying115 rfl sz115 rfl rfl rfl (rfl)) trivial ?_
 refine .q rfl (op_call (U := []) [] [] (fmul_ev _ _ (fmod_lt _) (fmod_lt _)) Tryz.func92 (by kernel_rfl) rfl rfl rfl (⟨⟨_, rfl, rfl, rfl⟩, ⟨_, rfl, rfl, rfl⟩, trivial⟩) (trivial) (trivial) (trivial) rfl) trivial ?_
 refine .as (.agg64 (fl (a ^ ((1 + 1) * 2 ^ 2 + (1 + 1)) % fp))) (congrArg (fun z => AV.agg64 (fl z)) (pw_add a _ _)) ?_
 refine .q rfl (op_loadRow Tryz.underlying115 rfl sz115 rfl rfl rfl (rfl)) trivial ?_
 refine .q rfl (op_call (U := []) [] [] (fmul_ev _ _ (fmod_lt _) ha) Tryz.func92 (by kernel_rfl) rfl rfl rfl (⟨⟨_, rfl, rfl, rfl⟩, ⟨_, rfl, rfl, rfl⟩, trivial⟩) (trivial) (trivial) (trivial) rfl) trivial ?_
 refine .as (.agg64 (fl (a ^ ((1 + 1) * 2 ^ 2 + (1 + 1) + 1) % fp))) (congrArg (fun z => AV.agg64 (fl z)) (pw_add1 a _)) ?_
 refine .a rfl (op_allocRow zero115 rel_zero115 rfl) trivial rfl rfl ?_
 refine .w rfl (op_storeRow sz115 rfl rfl rfl rfl rfl (rfl) (rfl)) trivial rfl rfl ?_
 refine .nil ?_
 show Ev _ _ _ _ _
 refine .seq ?_
 refine .drawn [[], [0], [0, 1], [], [0, 1, 2, 3], [0, 1, 2, 3, 4]] [0, 1, 2, 3, 4, 5] [5] (by kernel_rfl) (by kernel_rfl) rfl ?_
 show DK _ [0, 1, 2, 3, 4, 5] _ _ _
 refine .q rfl (op_loadRow Tryz.underlying115 rfl sz115 rfl rfl rfl (rfl)) trivial ?_
 refine .q rfl (op_call (U := []) [] [] (ones_gen a ha 250 (by decide) (by decide) e0 h0) Tryz.func132 (by kernel_rfl) rfl rfl rfl (⟨⟨_, rfl, rfl, rfl⟩, ⟨_, rfl, rfl, rfl⟩, trivial⟩) (trivial) (trivial) (trivial) rfl) trivial ?_
 refine .as (.agg64 (fl (a ^ e0 % fp))) rfl ?_
 refine .q rfl (op_call (U := []) [] [] (squares_ev (a ^ e0 % fp) 5 (fmod_lt _) (by decide)) Tryz.func131 (by kernel_rfl) rfl rfl rfl (⟨⟨_, rfl, rfl, rfl⟩, ⟨_, rfl, rfl, rfl⟩, trivial⟩) (trivial) (trivial) (trivial) rfl) trivial ?_
 refine .as (.agg64 (fl (a ^ e1 % fp))) (congrArg (fun z => AV.agg64 (fl z)) (pw_powE a _ _ _ h1)) ?_
 refine .q rfl (op_loadRow Tryz.underlying115 rfl sz115 rfl rfl rfl (rfl)) trivial ?_
 refine .q rfl (op_call (U := []) [] [] (fmul_ev _ _ (fmod_lt _) (fmod_lt _)) Tryz.func92 (by kernel_rfl) rfl rfl rfl (⟨⟨_, rfl, rfl, rfl⟩, ⟨_, rfl, rfl, rfl⟩, trivial⟩) (trivial) (trivial) (trivial) rfl) trivial ?_
 refine .as (.agg64 (fl (a ^ e2 % fp))) (congrArg (fun z => AV.agg64 (fl z)) (pw_addE a _ _ _ h2)) ?_
 refine .w rfl (op_storeRow sz115 rfl rfl rfl rfl rfl (rfl) (rfl)) trivial rfl rfl ?_
 refine .nil ?_
 show Ev _ _ _ _ _
 refine .ret ?_
 show RetOk _ _ _ _ _ _ _
 exact retc1 rfl (.inl rfl) ⟨_, _, _, _, rfl, rfl, rfl, rfl, (rfl), Tryz.underlying115, rfl, sz115⟩ trivial
theorem finvert_ev (a : Nat) (ha : a < fp) : Meets Tryz.prog 93 [.agg64 (fl a)] [] (.agg64 (fl (a ^ (fp - 2) % fp))) [] := finvert_gen a ha _ _ _ rfl rfl inv_exp
end Go.Proofs.YtdmlpblaelfdmaaGreatDoor
namespace Go.Proofs.YtdmlpblaelfdmaaGreatDoor
theorem fpos : 0 < fp := by decide
def uS (x1 z1 x2 z2 : Nat) : Nat := (x1 * x2 % fp + (fp - z1 * z2 % fp)) % fp
def vS (x1 z1 x2 z2 : Nat) : Nat := (x1 * z2 % fp + (fp - z1 * x2 % fp)) % fp
def csX (x1 z1 x2 z2 : Nat) : Nat := uS x1 z1 x2 z2 * uS x1 z1 x2 z2 % fp
def csZ (x x1 z1 x2 z2 : Nat) : Nat := x * (vS x1 z1 x2 z2 * vS x1 z1 x2 z2 % fp) % fp
def dU (x z : Nat) : Nat := (x * x % fp + (fp - z * z % fp)) % fp
def dblX (x z : Nat) : Nat := dU x z * dU x z % fp
def dblZ (x z : Nat) : Nat := (4 * (x * z % fp) % fp) * (((x * x % fp + 486662 * (x * z % fp) % fp) % fp + z * z % fp) % fp) % fp
/-- One round of the ladder: p and q, of which q - p is the point x. -/
def lstep (b : Bool) (x : Nat) (s : Nat × Nat × Nat × Nat) : Nat × Nat × Nat × Nat :=
  (if b then csX s.1 s.2.1 s.2.2.1 s.2.2.2 else dblX (if b then s.2.2.1 else s.1) (if b then s.2.2.2 else s.2.1),
   if b then csZ x s.1 s.2.1 s.2.2.1 s.2.2.2 else dblZ (if b then s.2.2.1 else s.1) (if b then s.2.2.2 else s.2.1),
   if b then dblX (if b then s.2.2.1 else s.1) (if b then s.2.2.2 else s.2.1) else csX s.1 s.2.1 s.2.2.1 s.2.2.2,
   if b then dblZ (if b then s.2.2.1 else s.1) (if b then s.2.2.2 else s.2.1) else csZ x s.1 s.2.1 s.2.2.1 s.2.2.2)
/-- Bit i of a scalar. -/
def kb (K : List UInt8) (i : Nat) : Bool := decide ((K.getD (i / 8) 0).toNat / 2 ^ (i % 8) % 2 = 1)
def lad (K : List UInt8) (x : Nat) : Nat → Nat × Nat × Nat × Nat
  | 0 => (1, 0, x, 1)
  | i + 1 => lstep (kb K (255 - i)) x (lad K x i)
theorem lstep_lt (b : Bool) (x : Nat) (s : Nat × Nat × Nat × Nat) : (lstep b x s).1 < fp ∧ (lstep b x s).2.1 < fp ∧ (lstep b x s).2.2.1 < fp ∧ (lstep b x s).2.2.2 < fp := by
  have h1 : ∀ a, a % fp < fp := fun a => Nat.mod_lt _ fpos
  cases b <;> exact ⟨h1 _, h1 _, h1 _, h1 _⟩
theorem lad_lt (K : List UInt8) (x : Nat) (hx : x < fp) (i : Nat) : (lad K x i).1 < fp ∧ (lad K x i).2.1 < fp ∧ (lad K x i).2.2.1 < fp ∧ (lad K x i).2.2.2 < fp := by
  cases i with
  | zero => exact ⟨show 1 < fp by decide, fpos, hx, show 1 < fp by decide⟩
  | succ i => exact lstep_lt _ _ _
/-- The scalar times the point. -/
def tmV (K : List UInt8) (x : Nat) : Nat := (lad K x 256).1 * ((lad K x 256).2.1 ^ (fp - 2) % fp) % fp
theorem tmV_lt (K : List UInt8) (x : Nat) : tmV K x < fp := Nat.mod_lt _ fpos
/-- The scalar as it counts. -/
def usL (K : List UInt8) : List UInt8 := (((K.set 0 (K.getD 0 0 &&& ~~~(UInt8.ofNat 7))).set 31 ((K.set 0 (K.getD 0 0 &&& ~~~(UInt8.ofNat 7))).getD 31 0 &&& ~~~(UInt8.ofNat 128)))).set 31 ((((K.set 0 (K.getD 0 0 &&& ~~~(UInt8.ofNat 7))).set 31 ((K.set 0 (K.getD 0 0 &&& ~~~(UInt8.ofNat 7))).getD 31 0 &&& ~~~(UInt8.ofNat 128)))).getD 31 0 ||| UInt8.ofNat 64)
theorem length_usL (K : List UInt8) : (usL K).length = K.length := by simp [usL]
/-- A bit, as the program asks for it, and as the reference does. -/
theorem shr8_toNat (x : UInt8) (s : Nat) (hs : s < 8) : (x >>> UInt8.ofNat s).toNat = x.toNat / 2 ^ s := by
  rw [UInt8.toNat_shiftRight, Nat.shiftRight_eq_div_pow, UInt8.toNat_ofNat', Nat.mod_eq_of_lt (b := 2 ^ 8) (Nat.lt_trans hs (by decide)), Nat.mod_eq_of_lt (b := 8) hs]
theorem bit_prog (K : List UInt8) (i : Nat) : ((K.getD (i / 8) 0 >>> UInt8.ofNat (i % 8)) &&& UInt8.ofNat 1 == UInt8.ofNat 1) = kb K i := by
  unfold kb
  rw [Bool.eq_iff_iff, beq_iff_eq, decide_eq_true_eq, ← UInt8.toNat_inj, UInt8.toNat_and, show (UInt8.ofNat 1).toNat = 2 ^ 1 - 1 from rfl, Nat.and_two_pow_sub_one_eq_mod, shr8_toNat _ _ (Nat.mod_lt _ (by decide))]
end Go.Proofs.YtdmlpblaelfdmaaGreatDoor
