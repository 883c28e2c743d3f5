/-
  The reference numbers in digits of 16 bits, walked over abstract values.
-/
import Derived.Test.YtgblhjmnenmlkaaDoorGA
import Derived.Test.YtgblhjmnenmlkaaDoorGE
import Derived.Test.YtgblhjmnenmlkaaDoorGB
import Derived.Test.YtgblhjmnenmlkaaDoorGP
namespace Go.Proofs.YtgblhjmnenmlkaaDoor
/-- The lowest n digits. -/
def dn : Nat → Nat → List Int
  | 0, _ => []
  | n + 1, v => ((v % 65536 : Nat) : Int) :: dn n (v / 65536)
theorem length_dn (n v : Nat) : (dn n v).length = n := by
  induction n generalizing v with
  | zero => rfl
  | succ n ih => simp [dn, ih]
theorem dn_get (n v i : Nat) (h : i < n) : (dn n v).getD i 0 = ((v / 65536 ^ i % 65536 : Nat) : Int) := by
  induction n generalizing v i with
  | zero => omega
  | succ n ih =>
    cases i with
    | zero => simp [dn]
    | succ i =>
      have := ih (v / 65536) i (by omega)
      simp only [dn, List.getD_cons_succ, this]
      rw [Nat.div_div_eq_div_mul, Nat.pow_succ, Nat.mul_comm (65536 ^ i)]
theorem dn_succ (n v : Nat) : dn (n + 1) v = dn n v ++ [((v / 65536 ^ n % 65536 : Nat) : Int)] := by
  induction n generalizing v with
  | zero => simp [dn]
  | succ n ih =>
    rw [dn, ih (v / 65536)]
    simp only [dn, List.cons_append]
    rw [Nat.div_div_eq_div_mul, Nat.pow_succ, Nat.mul_comm (65536 ^ n)]
/-- How many digits a number has. -/
def dl (v : Nat) : Nat := if h : v = 0 then 0 else dl (v / 65536) + 1
termination_by v
decreasing_by omega
def dg (v : Nat) : List Int := dn (dl v) v
theorem dl_zero : dl 0 = 0 := by rw [dl]; simp
theorem dl_pos {v : Nat} (h : v ≠ 0) : dl v = dl (v / 65536) + 1 := by rw [dl]; simp [h]
theorem length_dg (v : Nat) : (dg v).length = dl v := length_dn _ _
theorem dl_lt (v : Nat) : v < 65536 ^ dl v := by
  induction v using Nat.strongRecOn with
  | _ v ih =>
    by_cases h : v = 0
    · subst h; rw [dl_zero]; decide
    · have := ih (v / 65536) (by omega)
      rw [dl_pos h, Nat.pow_succ]
      omega
theorem dl_le {v n : Nat} (h : v < 65536 ^ n) : dl v ≤ n := by
  induction n generalizing v with
  | zero => have : v = 0 := by simpa using h
            subst this; rw [dl_zero]; exact Nat.le_refl _
  | succ n ih =>
    by_cases h0 : v = 0
    · subst h0; rw [dl_zero]; omega
    · rw [dl_pos h0]
      have := ih (v := v / 65536) (by rw [Nat.pow_succ] at h; omega)
      omega
theorem dl_top {v : Nat} (h : v ≠ 0) : v / 65536 ^ (dl v - 1) % 65536 ≠ 0 := by
  induction v using Nat.strongRecOn with
  | _ v ih =>
    rw [dl_pos h, Nat.add_sub_cancel]
    by_cases h0 : v / 65536 = 0
    · rw [h0, dl_zero]; simp; omega
    · have := ih (v / 65536) (by omega) h0
      rw [Nat.div_div_eq_div_mul, ← Nat.pow_succ', Nat.succ_eq_add_one] at this
      rwa [show dl (v / 65536) - 1 + 1 = dl (v / 65536) by rw [dl_pos h0]; omega] at this
theorem dl_ge {v n : Nat} (h : 65536 ^ n ≤ v) : n < dl v := by
  rcases Nat.lt_or_ge n (dl v) with h1 | h1
  · exact h1
  · have h2 := dl_lt v
    have h3 := Nat.pow_le_pow_right (show 0 < 65536 by decide) h1
    omega
/-- The digits above the first ones are zeros. -/
theorem dn_high {v i : Nat} (h : dl v ≤ i) : v / 65536 ^ i % 65536 = 0 := by
  have h1 := dl_lt v
  have h2 := Nat.pow_le_pow_right (show 0 < 65536 by decide) h
  rw [Nat.div_eq_of_lt (by omega)]
/-- The number of the digits. -/
def dv (l : List Int) : Nat := l.foldr (fun d r => d.toNat + 65536 * r) 0
def Dig (l : List Int) : Prop := ∀ d ∈ l, 0 ≤ d ∧ d < 65536
theorem dv_cons (d : Int) (l : List Int) : dv (d :: l) = d.toNat + 65536 * dv l := rfl
theorem dig_dn (n v : Nat) : Dig (dn n v) := by
  induction n generalizing v with
  | zero => intro d hd; cases hd
  | succ n ih =>
    intro d hd
    rcases List.mem_cons.1 hd with rfl | hd
    · omega
    · exact ih _ d hd
theorem dn_dv (l : List Int) (h : Dig l) : dn l.length (dv l) = l := by
  induction l with
  | nil => rfl
  | cons d l ih =>
    have hd := h d List.mem_cons_self
    rw [List.length_cons, dn, dv_cons, show (d.toNat + 65536 * dv l) / 65536 = dv l by omega, ih (fun x hx => h x (List.mem_cons_of_mem _ hx))]
    congr 1
    omega
theorem dv_lt (l : List Int) (h : Dig l) : dv l < 65536 ^ l.length := by
  induction l with
  | nil => decide
  | cons d l ih =>
    have hd := h d List.mem_cons_self
    have := ih (fun x hx => h x (List.mem_cons_of_mem _ hx))
    rw [dv_cons, List.length_cons, Nat.pow_succ]
    omega
theorem dv_dn (n v : Nat) (h : v < 65536 ^ n) : dv (dn n v) = v := by
  induction n generalizing v with
  | zero => have : v = 0 := by simpa using h
            subst this; rfl
  | succ n ih =>
    rw [dn, dv_cons, ih (v / 65536) (by rw [Nat.pow_succ] at h; omega)]
    omega
theorem dn_take (n m v : Nat) (h : m ≤ n) : (dn n v).take m = dn m v := by
  induction m generalizing n v with
  | zero => simp [dn]
  | succ m ih =>
    obtain ⟨k, rfl⟩ : ∃ k, n = k + 1 := ⟨n - 1, by omega⟩
    simp only [dn, List.take_succ_cons]
    rw [ih k _ (by omega)]
/-- The digits that are left when the zeros at the end are struck are the number's own. -/
theorem dg_take (n v : Nat) (h : v < 65536 ^ n) : (dn n v).take (dl v) = dg v := dn_take n (dl v) v (dl_le h)
/-- How many numbers are left without the zeros at the end. -/
def tl (l : List Int) (o : Nat) : Nat → Nat
  | 0 => 0
  | n + 1 => if l.getD (o + n) 0 = 0 then tl l o n else n + 1
theorem tl_zero (l : List Int) (o k : Nat) (hk : 0 < k) (h : l.getD (o + (k - 1)) 0 = 0) : tl l o (k - 1) = tl l o k := by
  obtain ⟨j, rfl⟩ : ∃ j, k = j + 1 := ⟨k - 1, by omega⟩
  rw [Nat.add_sub_cancel] at h
  rw [Nat.add_sub_cancel]; simp only [tl]; rw [if_pos h]
theorem tl_stop (l : List Int) (o k : Nat) (h : k = 0 ∨ ¬ l.getD (o + (k - 1)) 0 = 0) : tl l o k = k := by
  rcases h with rfl | h
  · rfl
  · cases k with
    | zero => rfl
    | succ j => rw [Nat.add_sub_cancel] at h; simp only [tl]; rw [if_neg h]
theorem tl_dn (n v k : Nat) (hk : k ≤ n) (h : v < 65536 ^ k) : tl (dn n v) 0 k = dl v := by
  induction k with
  | zero =>
    have : v = 0 := by simpa using h
    subst this; rw [dl_zero]; rfl
  | succ k ih =>
    simp only [tl]
    rw [Nat.zero_add, dn_get _ _ _ (by omega)]
    have hq : v / 65536 ^ k < 65536 := by
      rw [Nat.div_lt_iff_lt_mul (Nat.pow_pos (by decide)), Nat.mul_comm, ← Nat.pow_succ]; exact h
    rw [Nat.mod_eq_of_lt hq]
    by_cases h0 : v / 65536 ^ k = 0
    · rw [if_pos (by rw [h0]; rfl)]
      refine ih (by omega) ?_
      rcases Nat.lt_or_ge v (65536 ^ k) with h1 | h1
      · exact h1
      · have := Nat.div_pos h1 (Nat.pow_pos (by decide)); omega
    · rw [if_neg (by omega)]
      have h1 : 65536 ^ k ≤ v := by
        rcases Nat.lt_or_ge v (65536 ^ k) with h1 | h1
        · rw [Nat.div_eq_of_lt h1] at h0; exact absurd rfl h0
        · exact h1
      have h2 := dl_ge h1
      have h3 := dl_le h
      omega
theorem div_pos_iff (x k : Nat) : 0 < x / 65536 ^ k ↔ k < dl x := by
  constructor
  · intro h
    rcases Nat.lt_or_ge x (65536 ^ k) with h1 | h1
    · rw [Nat.div_eq_of_lt h1] at h; omega
    · exact dl_ge h1
  · intro h
    rcases Nat.lt_or_ge x (65536 ^ k) with h1 | h1
    · have := dl_le h1; omega
    · exact Nat.div_pos h1 (Nat.pow_pos (by decide))
/-- One more digit of a sum. -/
theorem add_div (a b n : Nat) : (a % 65536 ^ n + b % 65536 ^ n) / 65536 ^ n + a / 65536 ^ n % 65536 + b / 65536 ^ n % 65536 = ((a + b) / 65536 ^ n) % 65536 + 65536 * ((a % 65536 ^ (n + 1) + b % 65536 ^ (n + 1)) / 65536 ^ (n + 1)) := by
  have hp : 0 < 65536 ^ n := Nat.pow_pos (by decide)
  generalize hP : 65536 ^ n = P at *
  have e1 := Nat.div_add_mod a P
  have e2 := Nat.div_add_mod b P
  have hab : (a + b) / P = a / P + b / P + (a % P + b % P) / P := by
    have : a + b = (a % P + b % P) + P * (a / P + b / P) := by rw [Nat.mul_add]; omega
    rw [this, Nat.add_mul_div_left _ _ hp]; omega
  have hs : (a % (65536 ^ (n + 1)) + b % (65536 ^ (n + 1))) / 65536 ^ (n + 1) = (a / P % 65536 + b / P % 65536 + (a % P + b % P) / P) / 65536 := by
    rw [Nat.pow_succ, hP, Nat.mod_mul, Nat.mod_mul, ← Nat.div_div_eq_div_mul]
    congr 1
    have : a % P + P * (a / P % 65536) + (b % P + P * (b / P % 65536)) = (a % P + b % P) + P * (a / P % 65536 + b / P % 65536) := by rw [Nat.mul_add]; omega
    rw [this, Nat.add_mul_div_left _ _ hp]; omega
  rw [hs, hab]
  omega
/-- Digit k; the carry into it. -/
def dk (v k : Nat) : Nat := v / 65536 ^ k % 65536
def ck (a b k : Nat) : Nat := (a % 65536 ^ k + b % 65536 ^ k) / 65536 ^ k
theorem dk_lt (v k : Nat) : dk v k < 65536 := Nat.mod_lt _ (by decide)
theorem dk_high {v k : Nat} (h : dl v ≤ k) : dk v k = 0 := dn_high h
theorem dn_getk (n v i : Nat) (h : i < n) : (dn n v).getD i 0 = (dk v i : Int) := dn_get n v i h
theorem dn_succk (n v : Nat) : dn (n + 1) v = dn n v ++ [(dk v n : Int)] := dn_succ n v
theorem ck_zero (a b : Nat) : ck a b 0 = 0 := by simp [ck, Nat.mod_one]
theorem add_step (a b k : Nat) : ck a b k + dk a k + dk b k = dk (a + b) k + 65536 * ck a b (k + 1) := add_div a b k
theorem ck_le (a b k : Nat) : ck a b k ≤ 1 := by
  unfold ck
  have hp : 0 < 65536 ^ k := Nat.pow_pos (by decide)
  have h1 := Nat.mod_lt a hp
  have h2 := Nat.mod_lt b hp
  have h3 : (a % 65536 ^ k + b % 65536 ^ k) / 65536 ^ k < 2 := by rw [Nat.div_lt_iff_lt_mul hp]; omega
  omega
theorem add_end {a b k : Nat} (h1 : dl a ≤ k) (h2 : dl b ≤ k) (h3 : ck a b k = 0) : a + b < 65536 ^ k := by
  have hp : 0 < 65536 ^ k := Nat.pow_pos (by decide)
  have e1 := Nat.lt_of_lt_of_le (dl_lt a) (Nat.pow_le_pow_right (show 0 < 65536 by decide) h1)
  have e2 := Nat.lt_of_lt_of_le (dl_lt b) (Nat.pow_le_pow_right (show 0 < 65536 by decide) h2)
  unfold ck at h3
  rw [Nat.mod_eq_of_lt e1, Nat.mod_eq_of_lt e2] at h3
  rcases Nat.lt_or_ge (a + b) (65536 ^ k) with h | h
  · exact h
  · have := Nat.div_pos h hp; omega
theorem ck_end {a b k : Nat} (h1 : dl a ≤ k) (h2 : dl b ≤ k) : ck a b (k + 1) = 0 := by
  have e1 := Nat.lt_of_lt_of_le (dl_lt a) (Nat.pow_le_pow_right (show 0 < 65536 by decide) h1)
  have e2 := Nat.lt_of_lt_of_le (dl_lt b) (Nat.pow_le_pow_right (show 0 < 65536 by decide) h2)
  have hp : 0 < 65536 ^ k := Nat.pow_pos (by decide)
  unfold ck
  rw [Nat.pow_succ]
  have h3 : a % (65536 ^ k * 65536) ≤ a := Nat.mod_le _ _
  have h4 : b % (65536 ^ k * 65536) ≤ b := Nat.mod_le _ _
  exact Nat.div_eq_of_lt (by omega)
theorem ck_prev {a b k : Nat} (h1 : dl a < k) (h2 : dl b < k) : ck a b k = 0 := by
  obtain ⟨j, rfl⟩ : ∃ j, k = j + 1 := ⟨k - 1, by omega⟩
  exact ck_end (by omega) (by omega)
end Go.Proofs.YtgblhjmnenmlkaaDoor
namespace Go.Proofs.YtgblhjmnenmlkaaDoor
open Go.RowKit
set_option maxRecDepth 100000 in
theorem trim_ev (l : List Int) (o n : Nat) (h : o + n ≤ l.length) (hn : n ≤ 1000000) : Meets Tryd.prog 87 [.sl 500 o n 1] [(500, some ⟨.aggI l, 3, false⟩)] (.sl 500 o (tl l o n) 1) [(500, some ⟨.aggI l, 3, false⟩)] := by
  refine meets_of_ev (nt := 21) Tryd.func87 rfl rfl (Nat.le_of_ble_eq_true rfl) ?_
  refine .seq ?_
  refine .region ?_
  refine .q (op_assign rfl) trivial rfl ?_
  refine .nil ?_
  show Ev _ _ _ _ _
  refine .seq ?_
  refine .region ?_
  refine .q (op_move rfl) trivial rfl ?_
  refine .q (op_len_sl Tryd.underlying49 rfl) trivial rfl ?_
  refine .q (op_assign rfl) trivial rfl ?_
  refine .nil ?_
  show Ev _ _ _ _ _
  refine .seq ?_
  refine .block ?_
  refine Ev.loop (ι := { k : Nat // k ≤ n ∧ tl l o k = tl l o n }) (fun q => ⟨[(0, .sl 500 o n 1), (3, .i64 ((q.1 : Nat) : Int))], [(500, some ⟨.aggI l, 3, false⟩)], 1000⟩) (fun q => q.1) ⟨n, Nat.le_refl _, rfl⟩ (StLe.mk [] rfl rfl ⟨⟨_, rfl, by first | rfl | (simp only [AV.ren]; congr 1; omega), rfl⟩, ⟨_, rfl, by first | rfl | (simp only [AV.ren]; congr 1; omega), rfl⟩, trivial⟩ ⟨⟨_, _, rfl, rfl, rfl, rfl, id, rfl⟩, trivial⟩) ?_
  rintro ⟨k, hk, hz⟩
  try dsimp only
  refine .seq ?_
  refine .seq ?_
  refine .region ?_
  refine .q (op_move rfl) trivial rfl ?_
  refine .q (op_cmpI rfl rfl rfl) trivial rfl ?_
  refine .q (op_move rfl) trivial rfl ?_
  refine .split (fun hg8 => ?_) (fun hg8 => ?_)
  · first | replace hg8 := of_decide_eq_true hg8 | replace hg8 := of_decide_eq_false hg8 | replace hg8 := eq_of_beq hg8 | replace hg8 := ne_of_beq_false hg8 | simp only [bne_iff_ne, ne_eq] at hg8 | simp only [bne_eq_false_iff_eq] at hg8
    refine .q (op_move rfl) ⟨_, rfl, rfl⟩ rfl ?_
    refine .q (op_move rfl) ⟨_, rfl, rfl⟩ rfl ?_
    refine .q (op_subI rfl rfl ⟨by first | omega | (simp only [AV.len]; omega) | (simp only [AV.len, List.length_set]; omega) | assumption | (simp [AV.len]; done), by first | omega | (simp only [AV.len]; omega) | (simp only [AV.len, List.length_set]; omega) | assumption | (simp [AV.len]; done)⟩) ⟨_, rfl, rfl⟩ rfl ?_
    refine .q (ap_idx Tryd.underlying49 inf3.sz rfl rfl (i := k - 1) (by omega) (by first | omega | (simp only [AV.len]; omega) | (simp only [AV.len, List.length_set]; omega) | assumption | (simp [AV.len]; done))) ⟨_, rfl, rfl⟩ rfl ?_
    refine .q (op_load Tryd.underlying3 rfl rfl rfl rfl (by first | omega | (simp only [AV.len]; omega) | (simp only [AV.len, List.length_set]; omega) | assumption | (simp [AV.len]; done))) ⟨_, rfl, rfl⟩ rfl ?_
    refine .q (op_cmpI rfl rfl rfl) ⟨_, rfl, rfl⟩ rfl ?_
    refine .q (op_pick_true rfl rfl rfl) trivial rfl ?_
    refine .nil ?_
    show Ev _ _ _ _ _
    refine .cond rfl (fun hc15 => ?_) (fun hc15 => ?_)
    · first | replace hc15 := of_decide_eq_true hc15 | replace hc15 := of_decide_eq_false hc15 | replace hc15 := eq_of_beq hc15 | replace hc15 := ne_of_beq_false hc15 | simp only [bne_iff_ne, ne_eq] at hc15 | simp only [bne_eq_false_iff_eq] at hc15
      refine .skip ?_
      show Ev _ _ _ _ _
      refine .block ?_
      refine .region ?_
      refine .q (op_move rfl) trivial rfl ?_
      refine .q (op_subI rfl rfl ⟨by first | omega | (simp only [AV.len]; omega) | (simp only [AV.len, List.length_set]; omega) | assumption | (simp [AV.len]; done), by first | omega | (simp only [AV.len]; omega) | (simp only [AV.len, List.length_set]; omega) | assumption | (simp [AV.len]; done)⟩) trivial rfl ?_
      refine .q (op_assign rfl) trivial rfl ?_
      refine .nil ?_
      exact ⟨⟨k - 1, by omega, by rw [← hz]; exact tl_zero l o k (by omega) hc15⟩, by (try dsimp only); omega, StLe.mk [] rfl rfl ⟨⟨_, rfl, by rfl, rfl⟩, ⟨_, rfl, by simp only [AV.ren]; congr 1; omega, rfl⟩, trivial⟩ ⟨⟨_, _, rfl, rfl, rfl, rfl, id, rfl⟩, trivial⟩⟩
    · first | replace hc15 := of_decide_eq_true hc15 | replace hc15 := of_decide_eq_false hc15 | replace hc15 := eq_of_beq hc15 | replace hc15 := ne_of_beq_false hc15 | simp only [bne_iff_ne, ne_eq] at hc15 | simp only [bne_eq_false_iff_eq] at hc15
      refine .exit ?_
      show Ev _ _ _ _ _
      refine .seq ?_
      refine .region ?_
      refine .q (op_move rfl) trivial rfl ?_
      refine .q (op_move rfl) trivial rfl ?_
      refine .q (ap_slice_sl_hi Tryd.underlying49 inf3.sz rfl (bnd_some rfl rfl) (by first | omega | (simp only [AV.len]; omega) | (simp only [AV.len, List.length_set]; omega) | assumption | (simp [AV.len]; done))) trivial rfl ?_
      refine .q (op_assign rfl) trivial rfl ?_
      refine .nil ?_
      show Ev _ _ _ _ _
      refine .ret ?_
      show RetOk _ _ _ _ _ _ _
      have e := tl_stop l o k (by first | exact .inr hc15 | (left; omega))
      exact ret1v rfl (.inl rfl) rfl (by rw [← hz, e]) ⟨rfl, trivial⟩
  · first | replace hg8 := of_decide_eq_true hg8 | replace hg8 := of_decide_eq_false hg8 | replace hg8 := eq_of_beq hg8 | replace hg8 := ne_of_beq_false hg8 | simp only [bne_iff_ne, ne_eq] at hg8 | simp only [bne_eq_false_iff_eq] at hg8
    refine .no ⟨_, rfl, rfl⟩ rfl ?_
    refine .no ⟨_, rfl, rfl⟩ rfl ?_
    refine .no ⟨_, rfl, rfl⟩ rfl ?_
    refine .no ⟨_, rfl, rfl⟩ rfl ?_
    refine .no ⟨_, rfl, rfl⟩ rfl ?_
    refine .no ⟨_, rfl, rfl⟩ rfl ?_
    refine .q (op_pick_false rfl rfl rfl) trivial rfl ?_
    refine .nil ?_
    show Ev _ _ _ _ _
    refine .cond_false rfl rfl ?_
    refine .exit ?_
    show Ev _ _ _ _ _
    refine .seq ?_
    refine .region ?_
    refine .q (op_move rfl) trivial rfl ?_
    refine .q (op_move rfl) trivial rfl ?_
    refine .q (ap_slice_sl_hi Tryd.underlying49 inf3.sz rfl (bnd_some rfl rfl) (by first | omega | (simp only [AV.len]; omega) | (simp only [AV.len, List.length_set]; omega) | assumption | (simp [AV.len]; done))) trivial rfl ?_
    refine .q (op_assign rfl) trivial rfl ?_
    refine .nil ?_
    show Ev _ _ _ _ _
    refine .ret ?_
    show RetOk _ _ _ _ _ _ _
    have e := tl_stop l o k (by first | exact .inr hc15 | (left; omega))
    exact ret1v rfl (.inl rfl) rfl (by rw [← hz, e]) ⟨rfl, trivial⟩
theorem trim_dn (n v : Nat) (h : v < 65536 ^ n) (hn : n ≤ 1000000) : Meets Tryd.prog 87 [.sl 500 0 n 1] [(500, some ⟨.aggI (dn n v), 3, false⟩)] (.sl 500 0 (dl v) 1) [(500, some ⟨.aggI (dn n v), 3, false⟩)] :=
  (trim_ev (dn n v) 0 n (by rw [length_dn]; omega) hn).as (by rw [tl_dn n v n (Nat.le_refl _) h])
theorem pre_dn (n v : Nat) (h : dl v ≤ n) : (AV.aggI (dg v)).list = (AV.aggI (dn n v)).list.take (dl v) := by
  simp only [AV.list, AV.parts, Option.getD_some]
  rw [← List.map_take, dn_take n (dl v) v h]; rfl
theorem digit_cast (x k : Nat) : ((x / 65536 ^ k : Nat) : Int) % 65536 = ((x / 65536 ^ k % 65536 : Nat) : Int) := by simp
set_option maxRecDepth 100000 in
theorem small_ev (x : Nat) (hx : x < 9223372036854775807) : Meets Tryd.prog 53 [.i64 (x : Int)] [] (.sl 1000 0 (dl x) 1) [(1000, some ⟨.aggI (dg x), 3, true⟩)] := by
  refine meets_of_ev (nt := 15) Tryd.func53 rfl rfl (Nat.le_of_ble_eq_true rfl) ?_
  refine .seq ?_
  refine .region ?_
  refine .q (op_assign rfl) trivial rfl ?_
  refine .nil ?_
  show Ev _ _ _ _ _
  refine .seq ?_
  refine .region ?_
  refine .a (ap_build0 (z := 1) (c := .aggI []) Tryd.underlying49 inf3 rfl) trivial rfl ?_
  refine .q (op_assign rfl) trivial rfl ?_
  refine .nil ?_
  show Ev _ _ _ _ _
  refine .seq ?_
  refine .block ?_
  refine Ev.loop (ι := { k : Nat // k ≤ dl x }) (fun q => ⟨[(0, .i64 ((x / 65536 ^ q.1 : Nat) : Int)), (3, .sl 1000 0 q.1 1)], [(1000, some ⟨.aggI (dn q.1 x), 3, true⟩)], 1008⟩) (fun q => dl x - q.1) ⟨0, Nat.zero_le _⟩ (StLe.mk [(1000, 1000)] rfl rfl ⟨⟨_, rfl, by (simp only [AV.ren]; simp), rfl⟩, ⟨_, rfl, by rfl, rfl⟩, trivial⟩ ⟨⟨_, _, rfl, rfl, rfl, rfl, id, rfl⟩, trivial⟩) ?_
  rintro ⟨k, hk⟩
  try dsimp only
  have hd := div_pos_iff x k
  have hb : x / 65536 ^ k ≤ x := Nat.div_le_self _ _
  have hl := length_dn k x
  have hm : dl x ≤ 4 := dl_le (by omega)
  refine .seq ?_
  refine .seq ?_
  refine .region ?_
  refine .q (op_move rfl) trivial rfl ?_
  refine .q (op_cmpI rfl rfl rfl) trivial rfl ?_
  refine .nil ?_
  show Ev _ _ _ _ _
  refine .cond rfl (fun hc6 => ?_) (fun hc6 => ?_)
  · first | replace hc6 := of_decide_eq_true hc6 | replace hc6 := of_decide_eq_false hc6 | replace hc6 := eq_of_beq hc6 | replace hc6 := ne_of_beq_false hc6 | simp only [bne_iff_ne, ne_eq] at hc6 | simp only [bne_eq_false_iff_eq] at hc6
    refine .skip ?_
    show Ev _ _ _ _ _
    refine .block ?_
    refine .seq ?_
    refine .region ?_
    refine .q (op_move rfl) trivial rfl ?_
    refine .q (op_move rfl) trivial rfl ?_
    refine .q (op_remI rfl rfl ⟨by first | omega | (simp only [AV.len]; omega) | (simp only [AV.len, List.length_set]; omega) | assumption | (simp [AV.len]; done), by first | omega | (simp only [AV.len]; omega) | (simp only [AV.len, List.length_set]; omega) | assumption | (simp [AV.len]; done)⟩) trivial rfl ?_
    refine .a (ap_build (us := [_]) (c := .aggI [_]) Tryd.underlying49 inf3 rfl (by decide) (by decide) ⟨rfl, rfl, rfl, trivial⟩ rfl) trivial rfl ?_
    refine .a (ap_cat Tryd.underlying49 inf3 rfl rfl rfl rfl (by first | omega | (simp only [AV.len, length_dn]; done) | (simp [AV.len]; done)) rfl rfl (by first | omega | (simp only [AV.len]; done) | (simp [AV.len]; done)) rfl (by first | omega | (simp only [AV.len, length_dn]; done) | (simp [AV.len]; done))) trivial rfl ?_
    refine .q (op_assign rfl) trivial rfl ?_
    refine .nil ?_
    show Ev _ _ _ _ _
    refine .region ?_
    refine .q (op_move rfl) trivial rfl ?_
    refine .q (op_quoI rfl rfl ⟨by first | omega | (simp only [AV.len]; omega) | (simp only [AV.len, List.length_set]; omega) | assumption | (simp [AV.len]; done), ⟨by first | omega | (simp only [AV.len]; omega) | (simp only [AV.len, List.length_set]; omega) | assumption | (simp [AV.len]; done), by first | omega | (simp only [AV.len]; omega) | (simp only [AV.len, List.length_set]; omega) | assumption | (simp [AV.len]; done)⟩, by first | omega | (simp only [AV.len]; omega) | (simp only [AV.len, List.length_set]; omega) | assumption | (simp [AV.len]; done)⟩) trivial rfl ?_
    refine .q (op_assign rfl) trivial rfl ?_
    refine .nil ?_
    exact ⟨⟨k + 1, by omega⟩, by (try dsimp only); omega, StLe.mk [(1000, 1016)] rfl rfl ⟨⟨_, rfl, by (simp only [AV.ren]; congr 1; rw [Nat.pow_succ, ← Nat.div_div_eq_div_mul]; simp), rfl⟩, ⟨_, rfl, by rfl, rfl⟩, trivial⟩ ⟨⟨_, _, rfl, rfl, by (simp only [AV.ren]; rw [dn_succ, digit_cast]), rfl, id, rfl⟩, trivial⟩⟩
  · first | replace hc6 := of_decide_eq_true hc6 | replace hc6 := of_decide_eq_false hc6 | replace hc6 := eq_of_beq hc6 | replace hc6 := ne_of_beq_false hc6 | simp only [bne_iff_ne, ne_eq] at hc6 | simp only [bne_eq_false_iff_eq] at hc6
    refine .exit ?_
    show Ev _ _ _ _ _
    refine .seq ?_
    refine .region ?_
    refine .q (op_move rfl) trivial rfl ?_
    refine .q (op_assign rfl) trivial rfl ?_
    refine .nil ?_
    show Ev _ _ _ _ _
    refine .ret ?_
    show RetOk _ _ _ _ _ _ _
    have e : k = dl x := by omega
    exact ret1v rfl (.inl rfl) rfl (by rw [e]) ⟨(by rw [e]; rfl), trivial⟩
set_option maxHeartbeats 1000000 in
set_option maxRecDepth 100000 in
theorem add_ev (a b : Nat) (ha : dl a ≤ 1000) (hb : dl b ≤ 1000) : Meets Tryd.prog 55 [.sl 500 0 (dl a) 1, .sl 501 0 (dl b) 1] [(500, some ⟨.aggI (dg a), 3, false⟩), (501, some ⟨.aggI (dg b), 3, false⟩)] (.sl 1000 0 (dl (a + b)) 1) [(1000, some ⟨.aggI (dg (a + b)), 3, true⟩)] := by
  refine meets_of_ev (nt := 54) Tryd.func55 rfl rfl (Nat.le_of_ble_eq_true rfl) ?_
  refine .seq ?_
  refine .region ?_
  refine .q (op_assign rfl) trivial rfl ?_
  refine .nil ?_
  show Ev _ _ _ _ _
  refine .seq ?_
  refine .region ?_
  refine .a (ap_build0 (z := 1) (c := .aggI []) Tryd.underlying49 inf3 rfl) trivial rfl ?_
  refine .q (op_assign rfl) trivial rfl ?_
  refine .nil ?_
  show Ev _ _ _ _ _
  refine .seq ?_
  refine .region ?_
  refine .q (op_assign rfl) trivial rfl ?_
  refine .nil ?_
  show Ev _ _ _ _ _
  refine .seq ?_
  refine .seq ?_
  refine .region ?_
  refine .q (op_assign rfl) trivial rfl ?_
  refine .nil ?_
  show Ev _ _ _ _ _
  refine .block ?_
  refine Ev.loop (ι := { k : Nat // k ≤ dl a + dl b + 1 }) (fun q => ⟨[(0, .sl 500 0 (dl a) 1), (1, .sl 501 0 (dl b) 1), (5, .sl 1000 0 q.1 1), (6, .i64 (ck a b q.1 : Int)), (7, .i64 ((q.1 : Nat) : Int))], [(500, some ⟨.aggI (dg a), 3, false⟩), (501, some ⟨.aggI (dg b), 3, false⟩), (1000, some ⟨.aggI (dn q.1 (a + b)), 3, true⟩)], 1008⟩) (fun q => dl a + dl b + 2 - q.1) ⟨0, by omega⟩ (StLe.mk [(1000, 1000)] rfl rfl ⟨⟨_, rfl, by rfl, rfl⟩, ⟨_, rfl, by rfl, rfl⟩, ⟨_, rfl, by rfl, rfl⟩, ⟨_, rfl, by (simp only [AV.ren]; rw [ck_zero]; rfl), rfl⟩, ⟨_, rfl, by rfl, rfl⟩, trivial⟩ ⟨⟨_, _, rfl, rfl, rfl, rfl, id, rfl⟩, ⟨_, _, rfl, rfl, rfl, rfl, id, rfl⟩, ⟨_, _, rfl, rfl, rfl, rfl, id, rfl⟩, trivial⟩) ?_
  rintro ⟨k, hk⟩
  try dsimp only
  have hS := add_step a b k
  have hc := ck_le a b k
  have hA : k < dl a → (dg a).getD k 0 = (dk a k : Int) := fun h => dn_getk _ _ _ h
  have hB : k < dl b → (dg b).getD k 0 = (dk b k : Int) := fun h => dn_getk _ _ _ h
  have hA0 : dl a ≤ k → dk a k = 0 := dk_high
  have hB0 : dl b ≤ k → dk b k = 0 := dk_high
  have hE : dl a ≤ k → dl b ≤ k → ck a b (k + 1) = 0 := ck_end
  have hl := length_dn k (a + b)
  have d1 := dk_lt a k
  have d2 := dk_lt b k
  have d3 := dk_lt (a + b) k
  have l1 := length_dg a
  have l2 := length_dg b
  have hP : dl a < k → dl b < k → ck a b k = 0 := ck_prev
  refine .seq ?_
  refine .seq ?_
  refine .region ?_
  refine .q (op_move rfl) trivial rfl ?_
  refine .q (op_move rfl) trivial rfl ?_
  refine .q (op_len_sl Tryd.underlying49 rfl) trivial rfl ?_
  refine .q (op_cmpI rfl rfl rfl) trivial rfl ?_
  refine .q (op_move rfl) trivial rfl ?_
  refine .split (fun hg13 => ?_) (fun hg13 => ?_)
  · first | replace hg13 := of_decide_eq_true hg13 | replace hg13 := of_decide_eq_false hg13 | replace hg13 := eq_of_beq hg13 | replace hg13 := ne_of_beq_false hg13 | simp only [bne_iff_ne, ne_eq] at hg13 | simp only [bne_eq_false_iff_eq] at hg13
    refine .no ⟨_, rfl, rfl⟩ rfl ?_
    refine .no ⟨_, rfl, rfl⟩ rfl ?_
    refine .no ⟨_, rfl, rfl⟩ rfl ?_
    refine .no ⟨_, rfl, rfl⟩ rfl ?_
    refine .q (op_pick_true rfl rfl rfl) trivial rfl ?_
    refine .q (op_move rfl) trivial rfl ?_
    refine .no ⟨_, rfl, rfl⟩ rfl ?_
    refine .no ⟨_, rfl, rfl⟩ rfl ?_
    refine .q (op_pick_true rfl rfl rfl) trivial rfl ?_
    refine .nil ?_
    show Ev _ _ _ _ _
    refine .cond_true rfl rfl ?_
    refine .skip ?_
    show Ev _ _ _ _ _
    refine .seq ?_
    refine .block ?_
    refine .seq ?_
    refine .seq ?_
    refine .region ?_
    refine .q (op_move rfl) trivial rfl ?_
    refine .q (op_move rfl) trivial rfl ?_
    refine .q (op_len_sl Tryd.underlying49 rfl) trivial rfl ?_
    refine .q (op_cmpI rfl rfl rfl) trivial rfl ?_
    refine .nil ?_
    show Ev _ _ _ _ _
    refine .cond rfl (fun hc28 => ?_) (fun hc28 => ?_)
    · first | replace hc28 := of_decide_eq_true hc28 | replace hc28 := of_decide_eq_false hc28 | replace hc28 := eq_of_beq hc28 | replace hc28 := ne_of_beq_false hc28 | simp only [bne_iff_ne, ne_eq] at hc28 | simp only [bne_eq_false_iff_eq] at hc28
      refine .region ?_
      refine .q (op_move rfl) trivial rfl ?_
      refine .q (op_move rfl) trivial rfl ?_
      refine .q (op_move rfl) trivial rfl ?_
      refine .q (ap_idx0 Tryd.underlying49 inf3.sz rfl rfl rfl (by first | omega | (simp only [AV.len]; omega) | (simp only [AV.len, List.length_set]; omega) | assumption | (simp [AV.len]; done))) trivial rfl ?_
      refine .q (op_load Tryd.underlying3 rfl rfl rfl rfl (by first | omega | (simp only [AV.len]; omega) | (simp only [AV.len, List.length_set]; omega) | assumption | (simp [AV.len]; done))) trivial rfl ?_
      refine .q (op_addI rfl rfl ⟨by first | omega | (simp only [AV.len]; omega) | (simp only [AV.len, List.length_set]; omega) | assumption | (simp [AV.len]; done), by first | omega | (simp only [AV.len]; omega) | (simp only [AV.len, List.length_set]; omega) | assumption | (simp [AV.len]; done)⟩) trivial rfl ?_
      refine .q (op_assign rfl) trivial rfl ?_
      refine .nil ?_
      show Ev _ _ _ _ _
      refine .seq ?_
      refine .seq ?_
      refine .region ?_
      refine .q (op_move rfl) trivial rfl ?_
      refine .q (op_move rfl) trivial rfl ?_
      refine .q (op_len_sl Tryd.underlying49 rfl) trivial rfl ?_
      refine .q (op_cmpI rfl rfl rfl) trivial rfl ?_
      refine .nil ?_
      show Ev _ _ _ _ _
      refine .cond rfl (fun hc38 => ?_) (fun hc38 => ?_)
      · first | replace hc38 := of_decide_eq_true hc38 | replace hc38 := of_decide_eq_false hc38 | replace hc38 := eq_of_beq hc38 | replace hc38 := ne_of_beq_false hc38 | simp only [bne_iff_ne, ne_eq] at hc38 | simp only [bne_eq_false_iff_eq] at hc38
        refine .region ?_
        refine .q (op_move rfl) trivial rfl ?_
        refine .q (op_move rfl) trivial rfl ?_
        refine .q (op_move rfl) trivial rfl ?_
        refine .q (ap_idx0 Tryd.underlying49 inf3.sz rfl rfl rfl (by first | omega | (simp only [AV.len]; omega) | (simp only [AV.len, List.length_set]; omega) | assumption | (simp [AV.len]; done))) trivial rfl ?_
        refine .q (op_load Tryd.underlying3 rfl rfl rfl rfl (by first | omega | (simp only [AV.len]; omega) | (simp only [AV.len, List.length_set]; omega) | assumption | (simp [AV.len]; done))) trivial rfl ?_
        refine .q (op_addI rfl rfl ⟨by first | omega | (simp only [AV.len]; omega) | (simp only [AV.len, List.length_set]; omega) | assumption | (simp [AV.len]; done), by first | omega | (simp only [AV.len]; omega) | (simp only [AV.len, List.length_set]; omega) | assumption | (simp [AV.len]; done)⟩) trivial rfl ?_
        refine .q (op_assign rfl) trivial rfl ?_
        refine .nil ?_
        show Ev _ _ _ _ _
        refine .seq ?_
        refine .region ?_
        refine .q (op_move rfl) trivial rfl ?_
        refine .q (op_move rfl) trivial rfl ?_
        refine .q (op_remI rfl rfl ⟨by first | omega | (simp only [AV.len]; omega) | (simp only [AV.len, List.length_set]; omega) | assumption | (simp [AV.len]; done), by first | omega | (simp only [AV.len]; omega) | (simp only [AV.len, List.length_set]; omega) | assumption | (simp [AV.len]; done)⟩) trivial rfl ?_
        refine .a (ap_build (us := [_]) (c := .aggI [_]) Tryd.underlying49 inf3 rfl (by decide) (by decide) ⟨rfl, rfl, rfl, trivial⟩ rfl) trivial rfl ?_
        refine .a (ap_cat Tryd.underlying49 inf3 rfl rfl rfl rfl (by first | omega | (simp only [AV.len, length_dn]; done) | (simp [AV.len]; done)) rfl rfl (by first | omega | (simp only [AV.len]; done) | (simp [AV.len]; done)) rfl (by first | omega | (simp only [AV.len, length_dn]; done) | (simp [AV.len]; done))) trivial rfl ?_
        refine .q (op_assign rfl) trivial rfl ?_
        refine .nil ?_
        show Ev _ _ _ _ _
        refine .region ?_
        refine .q (op_move rfl) trivial rfl ?_
        refine .q (op_quoI rfl rfl ⟨by first | omega | (simp only [AV.len]; omega) | (simp only [AV.len, List.length_set]; omega) | assumption | (simp [AV.len]; done), ⟨by first | omega | (simp only [AV.len]; omega) | (simp only [AV.len, List.length_set]; omega) | assumption | (simp [AV.len]; done), by first | omega | (simp only [AV.len]; omega) | (simp only [AV.len, List.length_set]; omega) | assumption | (simp [AV.len]; done)⟩, by first | omega | (simp only [AV.len]; omega) | (simp only [AV.len, List.length_set]; omega) | assumption | (simp [AV.len]; done)⟩) trivial rfl ?_
        refine .q (op_assign rfl) trivial rfl ?_
        refine .nil ?_
        show Ev _ _ _ _ _
        refine .region ?_
        refine .q (op_move rfl) trivial rfl ?_
        refine .q (op_addI rfl rfl ⟨by first | omega | (simp only [AV.len]; omega) | (simp only [AV.len, List.length_set]; omega) | assumption | (simp [AV.len]; done), by first | omega | (simp only [AV.len]; omega) | (simp only [AV.len, List.length_set]; omega) | assumption | (simp [AV.len]; done)⟩) trivial rfl ?_
        refine .q (op_assign rfl) trivial rfl ?_
        refine .nil ?_
        exact ⟨⟨k + 1, by omega⟩, by (try dsimp only); omega, StLe.mk [(1000, 1016)] rfl rfl ⟨⟨_, rfl, by rfl, rfl⟩, ⟨_, rfl, by rfl, rfl⟩, ⟨_, rfl, by rfl, rfl⟩, ⟨_, rfl, by (simp only [AV.ren]; congr 1; omega), rfl⟩, ⟨_, rfl, by (simp only [AV.ren]; congr 1), rfl⟩, trivial⟩ ⟨⟨_, _, rfl, rfl, rfl, rfl, id, rfl⟩, ⟨_, _, rfl, rfl, rfl, rfl, id, rfl⟩, ⟨_, _, rfl, rfl, by (simp only [AV.ren]; rw [dn_succk]; congr 3; omega), rfl, id, rfl⟩, trivial⟩⟩
      · first | replace hc38 := of_decide_eq_true hc38 | replace hc38 := of_decide_eq_false hc38 | replace hc38 := eq_of_beq hc38 | replace hc38 := ne_of_beq_false hc38 | simp only [bne_iff_ne, ne_eq] at hc38 | simp only [bne_eq_false_iff_eq] at hc38
        refine .skip ?_
        show Ev _ _ _ _ _
        refine .seq ?_
        refine .region ?_
        refine .q (op_move rfl) trivial rfl ?_
        refine .q (op_move rfl) trivial rfl ?_
        refine .q (op_remI rfl rfl ⟨by first | omega | (simp only [AV.len]; omega) | (simp only [AV.len, List.length_set]; omega) | assumption | (simp [AV.len]; done), by first | omega | (simp only [AV.len]; omega) | (simp only [AV.len, List.length_set]; omega) | assumption | (simp [AV.len]; done)⟩) trivial rfl ?_
        refine .a (ap_build (us := [_]) (c := .aggI [_]) Tryd.underlying49 inf3 rfl (by decide) (by decide) ⟨rfl, rfl, rfl, trivial⟩ rfl) trivial rfl ?_
        refine .a (ap_cat Tryd.underlying49 inf3 rfl rfl rfl rfl (by first | omega | (simp only [AV.len, length_dn]; done) | (simp [AV.len]; done)) rfl rfl (by first | omega | (simp only [AV.len]; done) | (simp [AV.len]; done)) rfl (by first | omega | (simp only [AV.len, length_dn]; done) | (simp [AV.len]; done))) trivial rfl ?_
        refine .q (op_assign rfl) trivial rfl ?_
        refine .nil ?_
        show Ev _ _ _ _ _
        refine .region ?_
        refine .q (op_move rfl) trivial rfl ?_
        refine .q (op_quoI rfl rfl ⟨by first | omega | (simp only [AV.len]; omega) | (simp only [AV.len, List.length_set]; omega) | assumption | (simp [AV.len]; done), ⟨by first | omega | (simp only [AV.len]; omega) | (simp only [AV.len, List.length_set]; omega) | assumption | (simp [AV.len]; done), by first | omega | (simp only [AV.len]; omega) | (simp only [AV.len, List.length_set]; omega) | assumption | (simp [AV.len]; done)⟩, by first | omega | (simp only [AV.len]; omega) | (simp only [AV.len, List.length_set]; omega) | assumption | (simp [AV.len]; done)⟩) trivial rfl ?_
        refine .q (op_assign rfl) trivial rfl ?_
        refine .nil ?_
        show Ev _ _ _ _ _
        refine .region ?_
        refine .q (op_move rfl) trivial rfl ?_
        refine .q (op_addI rfl rfl ⟨by first | omega | (simp only [AV.len]; omega) | (simp only [AV.len, List.length_set]; omega) | assumption | (simp [AV.len]; done), by first | omega | (simp only [AV.len]; omega) | (simp only [AV.len, List.length_set]; omega) | assumption | (simp [AV.len]; done)⟩) trivial rfl ?_
        refine .q (op_assign rfl) trivial rfl ?_
        refine .nil ?_
        exact ⟨⟨k + 1, by omega⟩, by (try dsimp only); omega, StLe.mk [(1000, 1016)] rfl rfl ⟨⟨_, rfl, by rfl, rfl⟩, ⟨_, rfl, by rfl, rfl⟩, ⟨_, rfl, by rfl, rfl⟩, ⟨_, rfl, by (simp only [AV.ren]; congr 1; omega), rfl⟩, ⟨_, rfl, by (simp only [AV.ren]; congr 1), rfl⟩, trivial⟩ ⟨⟨_, _, rfl, rfl, rfl, rfl, id, rfl⟩, ⟨_, _, rfl, rfl, rfl, rfl, id, rfl⟩, ⟨_, _, rfl, rfl, by (simp only [AV.ren]; rw [dn_succk]; congr 3; omega), rfl, id, rfl⟩, trivial⟩⟩
    · first | replace hc28 := of_decide_eq_true hc28 | replace hc28 := of_decide_eq_false hc28 | replace hc28 := eq_of_beq hc28 | replace hc28 := ne_of_beq_false hc28 | simp only [bne_iff_ne, ne_eq] at hc28 | simp only [bne_eq_false_iff_eq] at hc28
      refine .skip ?_
      show Ev _ _ _ _ _
      refine .seq ?_
      refine .seq ?_
      refine .region ?_
      refine .q (op_move rfl) trivial rfl ?_
      refine .q (op_move rfl) trivial rfl ?_
      refine .q (op_len_sl Tryd.underlying49 rfl) trivial rfl ?_
      refine .q (op_cmpI rfl rfl rfl) trivial rfl ?_
      refine .nil ?_
      show Ev _ _ _ _ _
      refine .cond rfl (fun hc38 => ?_) (fun hc38 => ?_)
      · first | replace hc38 := of_decide_eq_true hc38 | replace hc38 := of_decide_eq_false hc38 | replace hc38 := eq_of_beq hc38 | replace hc38 := ne_of_beq_false hc38 | simp only [bne_iff_ne, ne_eq] at hc38 | simp only [bne_eq_false_iff_eq] at hc38
        refine .region ?_
        refine .q (op_move rfl) trivial rfl ?_
        refine .q (op_move rfl) trivial rfl ?_
        refine .q (op_move rfl) trivial rfl ?_
        refine .q (ap_idx0 Tryd.underlying49 inf3.sz rfl rfl rfl (by first | omega | (simp only [AV.len]; omega) | (simp only [AV.len, List.length_set]; omega) | assumption | (simp [AV.len]; done))) trivial rfl ?_
        refine .q (op_load Tryd.underlying3 rfl rfl rfl rfl (by first | omega | (simp only [AV.len]; omega) | (simp only [AV.len, List.length_set]; omega) | assumption | (simp [AV.len]; done))) trivial rfl ?_
        refine .q (op_addI rfl rfl ⟨by first | omega | (simp only [AV.len]; omega) | (simp only [AV.len, List.length_set]; omega) | assumption | (simp [AV.len]; done), by first | omega | (simp only [AV.len]; omega) | (simp only [AV.len, List.length_set]; omega) | assumption | (simp [AV.len]; done)⟩) trivial rfl ?_
        refine .q (op_assign rfl) trivial rfl ?_
        refine .nil ?_
        show Ev _ _ _ _ _
        refine .seq ?_
        refine .region ?_
        refine .q (op_move rfl) trivial rfl ?_
        refine .q (op_move rfl) trivial rfl ?_
        refine .q (op_remI rfl rfl ⟨by first | omega | (simp only [AV.len]; omega) | (simp only [AV.len, List.length_set]; omega) | assumption | (simp [AV.len]; done), by first | omega | (simp only [AV.len]; omega) | (simp only [AV.len, List.length_set]; omega) | assumption | (simp [AV.len]; done)⟩) trivial rfl ?_
        refine .a (ap_build (us := [_]) (c := .aggI [_]) Tryd.underlying49 inf3 rfl (by decide) (by decide) ⟨rfl, rfl, rfl, trivial⟩ rfl) trivial rfl ?_
        refine .a (ap_cat Tryd.underlying49 inf3 rfl rfl rfl rfl (by first | omega | (simp only [AV.len, length_dn]; done) | (simp [AV.len]; done)) rfl rfl (by first | omega | (simp only [AV.len, length_dn]; done) | (simp [AV.len]; done)) rfl (by first | omega | (simp only [AV.len, length_dn]; done) | (simp [AV.len]; done))) trivial rfl ?_
        refine .q (op_assign rfl) trivial rfl ?_
        refine .nil ?_
        show Ev _ _ _ _ _
        refine .region ?_
        refine .q (op_move rfl) trivial rfl ?_
        refine .q (op_quoI rfl rfl ⟨by first | omega | (simp only [AV.len]; omega) | (simp only [AV.len, List.length_set]; omega) | assumption | (simp [AV.len]; done), ⟨by first | omega | (simp only [AV.len]; omega) | (simp only [AV.len, List.length_set]; omega) | assumption | (simp [AV.len]; done), by first | omega | (simp only [AV.len]; omega) | (simp only [AV.len, List.length_set]; omega) | assumption | (simp [AV.len]; done)⟩, by first | omega | (simp only [AV.len]; omega) | (simp only [AV.len, List.length_set]; omega) | assumption | (simp [AV.len]; done)⟩) trivial rfl ?_
        refine .q (op_assign rfl) trivial rfl ?_
        refine .nil ?_
        show Ev _ _ _ _ _
        refine .region ?_
        refine .q (op_move rfl) trivial rfl ?_
        refine .q (op_addI rfl rfl ⟨by first | omega | (simp only [AV.len]; omega) | (simp only [AV.len, List.length_set]; omega) | assumption | (simp [AV.len]; done), by first | omega | (simp only [AV.len]; omega) | (simp only [AV.len, List.length_set]; omega) | assumption | (simp [AV.len]; done)⟩) trivial rfl ?_
        refine .q (op_assign rfl) trivial rfl ?_
        refine .nil ?_
        exact ⟨⟨k + 1, by omega⟩, by (try dsimp only); omega, StLe.mk [(1000, 1016)] rfl rfl ⟨⟨_, rfl, by rfl, rfl⟩, ⟨_, rfl, by rfl, rfl⟩, ⟨_, rfl, by rfl, rfl⟩, ⟨_, rfl, by (simp only [AV.ren]; congr 1; omega), rfl⟩, ⟨_, rfl, by (simp only [AV.ren]; congr 1), rfl⟩, trivial⟩ ⟨⟨_, _, rfl, rfl, rfl, rfl, id, rfl⟩, ⟨_, _, rfl, rfl, rfl, rfl, id, rfl⟩, ⟨_, _, rfl, rfl, by (simp only [AV.ren]; rw [dn_succk]; congr 3; omega), rfl, id, rfl⟩, trivial⟩⟩
      · first | replace hc38 := of_decide_eq_true hc38 | replace hc38 := of_decide_eq_false hc38 | replace hc38 := eq_of_beq hc38 | replace hc38 := ne_of_beq_false hc38 | simp only [bne_iff_ne, ne_eq] at hc38 | simp only [bne_eq_false_iff_eq] at hc38
        refine .skip ?_
        show Ev _ _ _ _ _
        refine .seq ?_
        refine .region ?_
        refine .q (op_move rfl) trivial rfl ?_
        refine .q (op_move rfl) trivial rfl ?_
        refine .q (op_remI rfl rfl ⟨by first | omega | (simp only [AV.len]; omega) | (simp only [AV.len, List.length_set]; omega) | assumption | (simp [AV.len]; done), by first | omega | (simp only [AV.len]; omega) | (simp only [AV.len, List.length_set]; omega) | assumption | (simp [AV.len]; done)⟩) trivial rfl ?_
        refine .a (ap_build (us := [_]) (c := .aggI [_]) Tryd.underlying49 inf3 rfl (by decide) (by decide) ⟨rfl, rfl, rfl, trivial⟩ rfl) trivial rfl ?_
        refine .a (ap_cat Tryd.underlying49 inf3 rfl rfl rfl rfl (by first | omega | (simp only [AV.len, length_dn]; done) | (simp [AV.len]; done)) rfl rfl (by first | omega | (simp only [AV.len, length_dn]; done) | (simp [AV.len]; done)) rfl (by first | omega | (simp only [AV.len, length_dn]; done) | (simp [AV.len]; done))) trivial rfl ?_
        refine .q (op_assign rfl) trivial rfl ?_
        refine .nil ?_
        show Ev _ _ _ _ _
        refine .region ?_
        refine .q (op_move rfl) trivial rfl ?_
        refine .q (op_quoI rfl rfl ⟨by first | omega | (simp only [AV.len]; omega) | (simp only [AV.len, List.length_set]; omega) | assumption | (simp [AV.len]; done), ⟨by first | omega | (simp only [AV.len]; omega) | (simp only [AV.len, List.length_set]; omega) | assumption | (simp [AV.len]; done), by first | omega | (simp only [AV.len]; omega) | (simp only [AV.len, List.length_set]; omega) | assumption | (simp [AV.len]; done)⟩, by first | omega | (simp only [AV.len]; omega) | (simp only [AV.len, List.length_set]; omega) | assumption | (simp [AV.len]; done)⟩) trivial rfl ?_
        refine .q (op_assign rfl) trivial rfl ?_
        refine .nil ?_
        show Ev _ _ _ _ _
        refine .region ?_
        refine .q (op_move rfl) trivial rfl ?_
        refine .q (op_addI rfl rfl ⟨by first | omega | (simp only [AV.len]; omega) | (simp only [AV.len, List.length_set]; omega) | assumption | (simp [AV.len]; done), by first | omega | (simp only [AV.len]; omega) | (simp only [AV.len, List.length_set]; omega) | assumption | (simp [AV.len]; done)⟩) trivial rfl ?_
        refine .q (op_assign rfl) trivial rfl ?_
        refine .nil ?_
        exact ⟨⟨k + 1, by omega⟩, by (try dsimp only); omega, StLe.mk [(1000, 1016)] rfl rfl ⟨⟨_, rfl, by rfl, rfl⟩, ⟨_, rfl, by rfl, rfl⟩, ⟨_, rfl, by rfl, rfl⟩, ⟨_, rfl, by (simp only [AV.ren]; congr 1; omega), rfl⟩, ⟨_, rfl, by (simp only [AV.ren]; congr 1), rfl⟩, trivial⟩ ⟨⟨_, _, rfl, rfl, rfl, rfl, id, rfl⟩, ⟨_, _, rfl, rfl, rfl, rfl, id, rfl⟩, ⟨_, _, rfl, rfl, by (simp only [AV.ren]; rw [dn_succk]; congr 3; omega), rfl, id, rfl⟩, trivial⟩⟩
  · first | replace hg13 := of_decide_eq_true hg13 | replace hg13 := of_decide_eq_false hg13 | replace hg13 := eq_of_beq hg13 | replace hg13 := ne_of_beq_false hg13 | simp only [bne_iff_ne, ne_eq] at hg13 | simp only [bne_eq_false_iff_eq] at hg13
    refine .q (op_move rfl) ⟨_, rfl, rfl⟩ rfl ?_
    refine .q (op_move rfl) ⟨_, rfl, rfl⟩ rfl ?_
    refine .q (op_len_sl Tryd.underlying49 rfl) ⟨_, rfl, rfl⟩ rfl ?_
    refine .q (op_cmpI rfl rfl rfl) ⟨_, rfl, rfl⟩ rfl ?_
    refine .q (op_pick_false rfl rfl rfl) trivial rfl ?_
    refine .q (op_move rfl) trivial rfl ?_
    refine .split (fun hg19 => ?_) (fun hg19 => ?_)
    · first | replace hg19 := of_decide_eq_true hg19 | replace hg19 := of_decide_eq_false hg19 | replace hg19 := eq_of_beq hg19 | replace hg19 := ne_of_beq_false hg19 | simp only [bne_iff_ne, ne_eq] at hg19 | simp only [bne_eq_false_iff_eq] at hg19
      refine .no ⟨_, rfl, rfl⟩ rfl ?_
      refine .no ⟨_, rfl, rfl⟩ rfl ?_
      refine .q (op_pick_true rfl rfl rfl) trivial rfl ?_
      refine .nil ?_
      show Ev _ _ _ _ _
      refine .cond_true rfl rfl ?_
      refine .skip ?_
      show Ev _ _ _ _ _
      refine .seq ?_
      refine .block ?_
      refine .seq ?_
      refine .seq ?_
      refine .region ?_
      refine .q (op_move rfl) trivial rfl ?_
      refine .q (op_move rfl) trivial rfl ?_
      refine .q (op_len_sl Tryd.underlying49 rfl) trivial rfl ?_
      refine .q (op_cmpI rfl rfl rfl) trivial rfl ?_
      refine .nil ?_
      show Ev _ _ _ _ _
      refine .cond rfl (fun hc28 => ?_) (fun hc28 => ?_)
      · first | replace hc28 := of_decide_eq_true hc28 | replace hc28 := of_decide_eq_false hc28 | replace hc28 := eq_of_beq hc28 | replace hc28 := ne_of_beq_false hc28 | simp only [bne_iff_ne, ne_eq] at hc28 | simp only [bne_eq_false_iff_eq] at hc28
        refine .region ?_
        refine .q (op_move rfl) trivial rfl ?_
        refine .q (op_move rfl) trivial rfl ?_
        refine .q (op_move rfl) trivial rfl ?_
        refine .q (ap_idx0 Tryd.underlying49 inf3.sz rfl rfl rfl (by first | omega | (simp only [AV.len]; omega) | (simp only [AV.len, List.length_set]; omega) | assumption | (simp [AV.len]; done))) trivial rfl ?_
        refine .q (op_load Tryd.underlying3 rfl rfl rfl rfl (by first | omega | (simp only [AV.len]; omega) | (simp only [AV.len, List.length_set]; omega) | assumption | (simp [AV.len]; done))) trivial rfl ?_
        refine .q (op_addI rfl rfl ⟨by first | omega | (simp only [AV.len]; omega) | (simp only [AV.len, List.length_set]; omega) | assumption | (simp [AV.len]; done), by first | omega | (simp only [AV.len]; omega) | (simp only [AV.len, List.length_set]; omega) | assumption | (simp [AV.len]; done)⟩) trivial rfl ?_
        refine .q (op_assign rfl) trivial rfl ?_
        refine .nil ?_
        show Ev _ _ _ _ _
        refine .seq ?_
        refine .seq ?_
        refine .region ?_
        refine .q (op_move rfl) trivial rfl ?_
        refine .q (op_move rfl) trivial rfl ?_
        refine .q (op_len_sl Tryd.underlying49 rfl) trivial rfl ?_
        refine .q (op_cmpI rfl rfl rfl) trivial rfl ?_
        refine .nil ?_
        show Ev _ _ _ _ _
        refine .cond rfl (fun hc38 => ?_) (fun hc38 => ?_)
        · first | replace hc38 := of_decide_eq_true hc38 | replace hc38 := of_decide_eq_false hc38 | replace hc38 := eq_of_beq hc38 | replace hc38 := ne_of_beq_false hc38 | simp only [bne_iff_ne, ne_eq] at hc38 | simp only [bne_eq_false_iff_eq] at hc38
          refine .region ?_
          refine .q (op_move rfl) trivial rfl ?_
          refine .q (op_move rfl) trivial rfl ?_
          refine .q (op_move rfl) trivial rfl ?_
          refine .q (ap_idx0 Tryd.underlying49 inf3.sz rfl rfl rfl (by first | omega | (simp only [AV.len]; omega) | (simp only [AV.len, List.length_set]; omega) | assumption | (simp [AV.len]; done))) trivial rfl ?_
          refine .q (op_load Tryd.underlying3 rfl rfl rfl rfl (by first | omega | (simp only [AV.len]; omega) | (simp only [AV.len, List.length_set]; omega) | assumption | (simp [AV.len]; done))) trivial rfl ?_
          refine .q (op_addI rfl rfl ⟨by first | omega | (simp only [AV.len]; omega) | (simp only [AV.len, List.length_set]; omega) | assumption | (simp [AV.len]; done), by first | omega | (simp only [AV.len]; omega) | (simp only [AV.len, List.length_set]; omega) | assumption | (simp [AV.len]; done)⟩) trivial rfl ?_
          refine .q (op_assign rfl) trivial rfl ?_
          refine .nil ?_
          show Ev _ _ _ _ _
          refine .seq ?_
          refine .region ?_
          refine .q (op_move rfl) trivial rfl ?_
          refine .q (op_move rfl) trivial rfl ?_
          refine .q (op_remI rfl rfl ⟨by first | omega | (simp only [AV.len]; omega) | (simp only [AV.len, List.length_set]; omega) | assumption | (simp [AV.len]; done), by first | omega | (simp only [AV.len]; omega) | (simp only [AV.len, List.length_set]; omega) | assumption | (simp [AV.len]; done)⟩) trivial rfl ?_
          refine .a (ap_build (us := [_]) (c := .aggI [_]) Tryd.underlying49 inf3 rfl (by decide) (by decide) ⟨rfl, rfl, rfl, trivial⟩ rfl) trivial rfl ?_
          refine .a (ap_cat Tryd.underlying49 inf3 rfl rfl rfl rfl (by first | omega | (simp only [AV.len, length_dn]; done) | (simp [AV.len]; done)) rfl rfl (by first | omega | (simp only [AV.len, length_dn]; done) | (simp [AV.len]; done)) rfl (by first | omega | (simp only [AV.len, length_dn]; done) | (simp [AV.len]; done))) trivial rfl ?_
          refine .q (op_assign rfl) trivial rfl ?_
          refine .nil ?_
          show Ev _ _ _ _ _
          refine .region ?_
          refine .q (op_move rfl) trivial rfl ?_
          refine .q (op_quoI rfl rfl ⟨by first | omega | (simp only [AV.len]; omega) | (simp only [AV.len, List.length_set]; omega) | assumption | (simp [AV.len]; done), ⟨by first | omega | (simp only [AV.len]; omega) | (simp only [AV.len, List.length_set]; omega) | assumption | (simp [AV.len]; done), by first | omega | (simp only [AV.len]; omega) | (simp only [AV.len, List.length_set]; omega) | assumption | (simp [AV.len]; done)⟩, by first | omega | (simp only [AV.len]; omega) | (simp only [AV.len, List.length_set]; omega) | assumption | (simp [AV.len]; done)⟩) trivial rfl ?_
          refine .q (op_assign rfl) trivial rfl ?_
          refine .nil ?_
          show Ev _ _ _ _ _
          refine .region ?_
          refine .q (op_move rfl) trivial rfl ?_
          refine .q (op_addI rfl rfl ⟨by first | omega | (simp only [AV.len]; omega) | (simp only [AV.len, List.length_set]; omega) | assumption | (simp [AV.len]; done), by first | omega | (simp only [AV.len]; omega) | (simp only [AV.len, List.length_set]; omega) | assumption | (simp [AV.len]; done)⟩) trivial rfl ?_
          refine .q (op_assign rfl) trivial rfl ?_
          refine .nil ?_
          exact ⟨⟨k + 1, by omega⟩, by (try dsimp only); omega, StLe.mk [(1000, 1016)] rfl rfl ⟨⟨_, rfl, by rfl, rfl⟩, ⟨_, rfl, by rfl, rfl⟩, ⟨_, rfl, by rfl, rfl⟩, ⟨_, rfl, by (simp only [AV.ren]; congr 1; omega), rfl⟩, ⟨_, rfl, by (simp only [AV.ren]; congr 1), rfl⟩, trivial⟩ ⟨⟨_, _, rfl, rfl, rfl, rfl, id, rfl⟩, ⟨_, _, rfl, rfl, rfl, rfl, id, rfl⟩, ⟨_, _, rfl, rfl, by (simp only [AV.ren]; rw [dn_succk]; congr 3; omega), rfl, id, rfl⟩, trivial⟩⟩
        · first | replace hc38 := of_decide_eq_true hc38 | replace hc38 := of_decide_eq_false hc38 | replace hc38 := eq_of_beq hc38 | replace hc38 := ne_of_beq_false hc38 | simp only [bne_iff_ne, ne_eq] at hc38 | simp only [bne_eq_false_iff_eq] at hc38
          refine .skip ?_
          show Ev _ _ _ _ _
          refine .seq ?_
          refine .region ?_
          refine .q (op_move rfl) trivial rfl ?_
          refine .q (op_move rfl) trivial rfl ?_
          refine .q (op_remI rfl rfl ⟨by first | omega | (simp only [AV.len]; omega) | (simp only [AV.len, List.length_set]; omega) | assumption | (simp [AV.len]; done), by first | omega | (simp only [AV.len]; omega) | (simp only [AV.len, List.length_set]; omega) | assumption | (simp [AV.len]; done)⟩) trivial rfl ?_
          refine .a (ap_build (us := [_]) (c := .aggI [_]) Tryd.underlying49 inf3 rfl (by decide) (by decide) ⟨rfl, rfl, rfl, trivial⟩ rfl) trivial rfl ?_
          refine .a (ap_cat Tryd.underlying49 inf3 rfl rfl rfl rfl (by first | omega | (simp only [AV.len, length_dn]; done) | (simp [AV.len]; done)) rfl rfl (by first | omega | (simp only [AV.len, length_dn]; done) | (simp [AV.len]; done)) rfl (by first | omega | (simp only [AV.len, length_dn]; done) | (simp [AV.len]; done))) trivial rfl ?_
          refine .q (op_assign rfl) trivial rfl ?_
          refine .nil ?_
          show Ev _ _ _ _ _
          refine .region ?_
          refine .q (op_move rfl) trivial rfl ?_
          refine .q (op_quoI rfl rfl ⟨by first | omega | (simp only [AV.len]; omega) | (simp only [AV.len, List.length_set]; omega) | assumption | (simp [AV.len]; done), ⟨by first | omega | (simp only [AV.len]; omega) | (simp only [AV.len, List.length_set]; omega) | assumption | (simp [AV.len]; done), by first | omega | (simp only [AV.len]; omega) | (simp only [AV.len, List.length_set]; omega) | assumption | (simp [AV.len]; done)⟩, by first | omega | (simp only [AV.len]; omega) | (simp only [AV.len, List.length_set]; omega) | assumption | (simp [AV.len]; done)⟩) trivial rfl ?_
          refine .q (op_assign rfl) trivial rfl ?_
          refine .nil ?_
          show Ev _ _ _ _ _
          refine .region ?_
          refine .q (op_move rfl) trivial rfl ?_
          refine .q (op_addI rfl rfl ⟨by first | omega | (simp only [AV.len]; omega) | (simp only [AV.len, List.length_set]; omega) | assumption | (simp [AV.len]; done), by first | omega | (simp only [AV.len]; omega) | (simp only [AV.len, List.length_set]; omega) | assumption | (simp [AV.len]; done)⟩) trivial rfl ?_
          refine .q (op_assign rfl) trivial rfl ?_
          refine .nil ?_
          exact ⟨⟨k + 1, by omega⟩, by (try dsimp only); omega, StLe.mk [(1000, 1016)] rfl rfl ⟨⟨_, rfl, by rfl, rfl⟩, ⟨_, rfl, by rfl, rfl⟩, ⟨_, rfl, by rfl, rfl⟩, ⟨_, rfl, by (simp only [AV.ren]; congr 1; omega), rfl⟩, ⟨_, rfl, by (simp only [AV.ren]; congr 1), rfl⟩, trivial⟩ ⟨⟨_, _, rfl, rfl, rfl, rfl, id, rfl⟩, ⟨_, _, rfl, rfl, rfl, rfl, id, rfl⟩, ⟨_, _, rfl, rfl, by (simp only [AV.ren]; rw [dn_succk]; congr 3; omega), rfl, id, rfl⟩, trivial⟩⟩
      · first | replace hc28 := of_decide_eq_true hc28 | replace hc28 := of_decide_eq_false hc28 | replace hc28 := eq_of_beq hc28 | replace hc28 := ne_of_beq_false hc28 | simp only [bne_iff_ne, ne_eq] at hc28 | simp only [bne_eq_false_iff_eq] at hc28
        refine .skip ?_
        show Ev _ _ _ _ _
        refine .seq ?_
        refine .seq ?_
        refine .region ?_
        refine .q (op_move rfl) trivial rfl ?_
        refine .q (op_move rfl) trivial rfl ?_
        refine .q (op_len_sl Tryd.underlying49 rfl) trivial rfl ?_
        refine .q (op_cmpI rfl rfl rfl) trivial rfl ?_
        refine .nil ?_
        show Ev _ _ _ _ _
        refine .cond rfl (fun hc38 => ?_) (fun hc38 => ?_)
        · first | replace hc38 := of_decide_eq_true hc38 | replace hc38 := of_decide_eq_false hc38 | replace hc38 := eq_of_beq hc38 | replace hc38 := ne_of_beq_false hc38 | simp only [bne_iff_ne, ne_eq] at hc38 | simp only [bne_eq_false_iff_eq] at hc38
          refine .region ?_
          refine .q (op_move rfl) trivial rfl ?_
          refine .q (op_move rfl) trivial rfl ?_
          refine .q (op_move rfl) trivial rfl ?_
          refine .q (ap_idx0 Tryd.underlying49 inf3.sz rfl rfl rfl (by first | omega | (simp only [AV.len]; omega) | (simp only [AV.len, List.length_set]; omega) | assumption | (simp [AV.len]; done))) trivial rfl ?_
          refine .q (op_load Tryd.underlying3 rfl rfl rfl rfl (by first | omega | (simp only [AV.len]; omega) | (simp only [AV.len, List.length_set]; omega) | assumption | (simp [AV.len]; done))) trivial rfl ?_
          refine .q (op_addI rfl rfl ⟨by first | omega | (simp only [AV.len]; omega) | (simp only [AV.len, List.length_set]; omega) | assumption | (simp [AV.len]; done), by first | omega | (simp only [AV.len]; omega) | (simp only [AV.len, List.length_set]; omega) | assumption | (simp [AV.len]; done)⟩) trivial rfl ?_
          refine .q (op_assign rfl) trivial rfl ?_
          refine .nil ?_
          show Ev _ _ _ _ _
          refine .seq ?_
          refine .region ?_
          refine .q (op_move rfl) trivial rfl ?_
          refine .q (op_move rfl) trivial rfl ?_
          refine .q (op_remI rfl rfl ⟨by first | omega | (simp only [AV.len]; omega) | (simp only [AV.len, List.length_set]; omega) | assumption | (simp [AV.len]; done), by first | omega | (simp only [AV.len]; omega) | (simp only [AV.len, List.length_set]; omega) | assumption | (simp [AV.len]; done)⟩) trivial rfl ?_
          refine .a (ap_build (us := [_]) (c := .aggI [_]) Tryd.underlying49 inf3 rfl (by decide) (by decide) ⟨rfl, rfl, rfl, trivial⟩ rfl) trivial rfl ?_
          refine .a (ap_cat Tryd.underlying49 inf3 rfl rfl rfl rfl (by first | omega | (simp only [AV.len, length_dn]; done) | (simp [AV.len]; done)) rfl rfl (by first | omega | (simp only [AV.len]; done) | (simp [AV.len]; done)) rfl (by first | omega | (simp only [AV.len, length_dn]; done) | (simp [AV.len]; done))) trivial rfl ?_
          refine .q (op_assign rfl) trivial rfl ?_
          refine .nil ?_
          show Ev _ _ _ _ _
          refine .region ?_
          refine .q (op_move rfl) trivial rfl ?_
          refine .q (op_quoI rfl rfl ⟨by first | omega | (simp only [AV.len]; omega) | (simp only [AV.len, List.length_set]; omega) | assumption | (simp [AV.len]; done), ⟨by first | omega | (simp only [AV.len]; omega) | (simp only [AV.len, List.length_set]; omega) | assumption | (simp [AV.len]; done), by first | omega | (simp only [AV.len]; omega) | (simp only [AV.len, List.length_set]; omega) | assumption | (simp [AV.len]; done)⟩, by first | omega | (simp only [AV.len]; omega) | (simp only [AV.len, List.length_set]; omega) | assumption | (simp [AV.len]; done)⟩) trivial rfl ?_
          refine .q (op_assign rfl) trivial rfl ?_
          refine .nil ?_
          show Ev _ _ _ _ _
          refine .region ?_
          refine .q (op_move rfl) trivial rfl ?_
          refine .q (op_addI rfl rfl ⟨by first | omega | (simp only [AV.len]; omega) | (simp only [AV.len, List.length_set]; omega) | assumption | (simp [AV.len]; done), by first | omega | (simp only [AV.len]; omega) | (simp only [AV.len, List.length_set]; omega) | assumption | (simp [AV.len]; done)⟩) trivial rfl ?_
          refine .q (op_assign rfl) trivial rfl ?_
          refine .nil ?_
          exact ⟨⟨k + 1, by omega⟩, by (try dsimp only); omega, StLe.mk [(1000, 1016)] rfl rfl ⟨⟨_, rfl, by rfl, rfl⟩, ⟨_, rfl, by rfl, rfl⟩, ⟨_, rfl, by rfl, rfl⟩, ⟨_, rfl, by (simp only [AV.ren]; congr 1; omega), rfl⟩, ⟨_, rfl, by (simp only [AV.ren]; congr 1), rfl⟩, trivial⟩ ⟨⟨_, _, rfl, rfl, rfl, rfl, id, rfl⟩, ⟨_, _, rfl, rfl, rfl, rfl, id, rfl⟩, ⟨_, _, rfl, rfl, by (simp only [AV.ren]; rw [dn_succk]; congr 3; omega), rfl, id, rfl⟩, trivial⟩⟩
        · first | replace hc38 := of_decide_eq_true hc38 | replace hc38 := of_decide_eq_false hc38 | replace hc38 := eq_of_beq hc38 | replace hc38 := ne_of_beq_false hc38 | simp only [bne_iff_ne, ne_eq] at hc38 | simp only [bne_eq_false_iff_eq] at hc38
          refine .skip ?_
          show Ev _ _ _ _ _
          refine .seq ?_
          refine .region ?_
          refine .q (op_move rfl) trivial rfl ?_
          refine .q (op_move rfl) trivial rfl ?_
          refine .q (op_remI rfl rfl ⟨by first | omega | (simp only [AV.len]; omega) | (simp only [AV.len, List.length_set]; omega) | assumption | (simp [AV.len]; done), by first | omega | (simp only [AV.len]; omega) | (simp only [AV.len, List.length_set]; omega) | assumption | (simp [AV.len]; done)⟩) trivial rfl ?_
          refine .a (ap_build (us := [_]) (c := .aggI [_]) Tryd.underlying49 inf3 rfl (by decide) (by decide) ⟨rfl, rfl, rfl, trivial⟩ rfl) trivial rfl ?_
          refine .a (ap_cat Tryd.underlying49 inf3 rfl rfl rfl rfl (by first | omega | (simp only [AV.len, length_dn]; done) | (simp [AV.len]; done)) rfl rfl (by first | omega | (simp only [AV.len, length_dn]; done) | (simp [AV.len]; done)) rfl (by first | omega | (simp only [AV.len, length_dn]; done) | (simp [AV.len]; done))) trivial rfl ?_
          refine .q (op_assign rfl) trivial rfl ?_
          refine .nil ?_
          show Ev _ _ _ _ _
          refine .region ?_
          refine .q (op_move rfl) trivial rfl ?_
          refine .q (op_quoI rfl rfl ⟨by first | omega | (simp only [AV.len]; omega) | (simp only [AV.len, List.length_set]; omega) | assumption | (simp [AV.len]; done), ⟨by first | omega | (simp only [AV.len]; omega) | (simp only [AV.len, List.length_set]; omega) | assumption | (simp [AV.len]; done), by first | omega | (simp only [AV.len]; omega) | (simp only [AV.len, List.length_set]; omega) | assumption | (simp [AV.len]; done)⟩, by first | omega | (simp only [AV.len]; omega) | (simp only [AV.len, List.length_set]; omega) | assumption | (simp [AV.len]; done)⟩) trivial rfl ?_
          refine .q (op_assign rfl) trivial rfl ?_
          refine .nil ?_
          show Ev _ _ _ _ _
          refine .region ?_
          refine .q (op_move rfl) trivial rfl ?_
          refine .q (op_addI rfl rfl ⟨by first | omega | (simp only [AV.len]; omega) | (simp only [AV.len, List.length_set]; omega) | assumption | (simp [AV.len]; done), by first | omega | (simp only [AV.len]; omega) | (simp only [AV.len, List.length_set]; omega) | assumption | (simp [AV.len]; done)⟩) trivial rfl ?_
          refine .q (op_assign rfl) trivial rfl ?_
          refine .nil ?_
          exact ⟨⟨k + 1, by omega⟩, by (try dsimp only); omega, StLe.mk [(1000, 1016)] rfl rfl ⟨⟨_, rfl, by rfl, rfl⟩, ⟨_, rfl, by rfl, rfl⟩, ⟨_, rfl, by rfl, rfl⟩, ⟨_, rfl, by (simp only [AV.ren]; congr 1; omega), rfl⟩, ⟨_, rfl, by (simp only [AV.ren]; congr 1), rfl⟩, trivial⟩ ⟨⟨_, _, rfl, rfl, rfl, rfl, id, rfl⟩, ⟨_, _, rfl, rfl, rfl, rfl, id, rfl⟩, ⟨_, _, rfl, rfl, by (simp only [AV.ren]; rw [dn_succk]; congr 3; omega), rfl, id, rfl⟩, trivial⟩⟩
    · first | replace hg19 := of_decide_eq_true hg19 | replace hg19 := of_decide_eq_false hg19 | replace hg19 := eq_of_beq hg19 | replace hg19 := ne_of_beq_false hg19 | simp only [bne_iff_ne, ne_eq] at hg19 | simp only [bne_eq_false_iff_eq] at hg19
      refine .q (op_move rfl) ⟨_, rfl, rfl⟩ rfl ?_
      refine .q (op_cmpI rfl rfl rfl) ⟨_, rfl, rfl⟩ rfl ?_
      refine .q (op_pick_false rfl rfl rfl) trivial rfl ?_
      refine .nil ?_
      show Ev _ _ _ _ _
      refine .cond rfl (fun hc22 => ?_) (fun hc22 => ?_)
      · first | replace hc22 := of_decide_eq_true hc22 | replace hc22 := of_decide_eq_false hc22 | replace hc22 := eq_of_beq hc22 | replace hc22 := ne_of_beq_false hc22 | simp only [bne_iff_ne, ne_eq] at hc22 | simp only [bne_eq_false_iff_eq] at hc22
        refine .skip ?_
        show Ev _ _ _ _ _
        refine .seq ?_
        refine .block ?_
        refine .seq ?_
        refine .seq ?_
        refine .region ?_
        refine .q (op_move rfl) trivial rfl ?_
        refine .q (op_move rfl) trivial rfl ?_
        refine .q (op_len_sl Tryd.underlying49 rfl) trivial rfl ?_
        refine .q (op_cmpI rfl rfl rfl) trivial rfl ?_
        refine .nil ?_
        show Ev _ _ _ _ _
        refine .cond rfl (fun hc28 => ?_) (fun hc28 => ?_)
        · first | replace hc28 := of_decide_eq_true hc28 | replace hc28 := of_decide_eq_false hc28 | replace hc28 := eq_of_beq hc28 | replace hc28 := ne_of_beq_false hc28 | simp only [bne_iff_ne, ne_eq] at hc28 | simp only [bne_eq_false_iff_eq] at hc28
          refine .region ?_
          refine .q (op_move rfl) trivial rfl ?_
          refine .q (op_move rfl) trivial rfl ?_
          refine .q (op_move rfl) trivial rfl ?_
          refine .q (ap_idx0 Tryd.underlying49 inf3.sz rfl rfl rfl (by first | omega | (simp only [AV.len]; omega) | (simp only [AV.len, List.length_set]; omega) | assumption | (simp [AV.len]; done))) trivial rfl ?_
          refine .q (op_load Tryd.underlying3 rfl rfl rfl rfl (by first | omega | (simp only [AV.len]; omega) | (simp only [AV.len, List.length_set]; omega) | assumption | (simp [AV.len]; done))) trivial rfl ?_
          refine .q (op_addI rfl rfl ⟨by first | omega | (simp only [AV.len]; omega) | (simp only [AV.len, List.length_set]; omega) | assumption | (simp [AV.len]; done), by first | omega | (simp only [AV.len]; omega) | (simp only [AV.len, List.length_set]; omega) | assumption | (simp [AV.len]; done)⟩) trivial rfl ?_
          refine .q (op_assign rfl) trivial rfl ?_
          refine .nil ?_
          show Ev _ _ _ _ _
          refine .seq ?_
          refine .seq ?_
          refine .region ?_
          refine .q (op_move rfl) trivial rfl ?_
          refine .q (op_move rfl) trivial rfl ?_
          refine .q (op_len_sl Tryd.underlying49 rfl) trivial rfl ?_
          refine .q (op_cmpI rfl rfl rfl) trivial rfl ?_
          refine .nil ?_
          show Ev _ _ _ _ _
          refine .cond rfl (fun hc38 => ?_) (fun hc38 => ?_)
          · first | replace hc38 := of_decide_eq_true hc38 | replace hc38 := of_decide_eq_false hc38 | replace hc38 := eq_of_beq hc38 | replace hc38 := ne_of_beq_false hc38 | simp only [bne_iff_ne, ne_eq] at hc38 | simp only [bne_eq_false_iff_eq] at hc38
            refine .region ?_
            refine .q (op_move rfl) trivial rfl ?_
            refine .q (op_move rfl) trivial rfl ?_
            refine .q (op_move rfl) trivial rfl ?_
            refine .q (ap_idx0 Tryd.underlying49 inf3.sz rfl rfl rfl (by first | omega | (simp only [AV.len]; omega) | (simp only [AV.len, List.length_set]; omega) | assumption | (simp [AV.len]; done))) trivial rfl ?_
            refine .q (op_load Tryd.underlying3 rfl rfl rfl rfl (by first | omega | (simp only [AV.len]; omega) | (simp only [AV.len, List.length_set]; omega) | assumption | (simp [AV.len]; done))) trivial rfl ?_
            refine .q (op_addI rfl rfl ⟨by first | omega | (simp only [AV.len]; omega) | (simp only [AV.len, List.length_set]; omega) | assumption | (simp [AV.len]; done), by first | omega | (simp only [AV.len]; omega) | (simp only [AV.len, List.length_set]; omega) | assumption | (simp [AV.len]; done)⟩) trivial rfl ?_
            refine .q (op_assign rfl) trivial rfl ?_
            refine .nil ?_
            show Ev _ _ _ _ _
            refine .seq ?_
            refine .region ?_
            refine .q (op_move rfl) trivial rfl ?_
            refine .q (op_move rfl) trivial rfl ?_
            refine .q (op_remI rfl rfl ⟨by first | omega | (simp only [AV.len]; omega) | (simp only [AV.len, List.length_set]; omega) | assumption | (simp [AV.len]; done), by first | omega | (simp only [AV.len]; omega) | (simp only [AV.len, List.length_set]; omega) | assumption | (simp [AV.len]; done)⟩) trivial rfl ?_
            refine .a (ap_build (us := [_]) (c := .aggI [_]) Tryd.underlying49 inf3 rfl (by decide) (by decide) ⟨rfl, rfl, rfl, trivial⟩ rfl) trivial rfl ?_
            refine .a (ap_cat Tryd.underlying49 inf3 rfl rfl rfl rfl (by first | omega | (simp only [AV.len, length_dn]; done) | (simp [AV.len]; done)) rfl rfl (by first | omega | (simp only [AV.len, length_dn]; done) | (simp [AV.len]; done)) rfl (by first | omega | (simp only [AV.len, length_dn]; done) | (simp [AV.len]; done))) trivial rfl ?_
            refine .q (op_assign rfl) trivial rfl ?_
            refine .nil ?_
            show Ev _ _ _ _ _
            refine .region ?_
            refine .q (op_move rfl) trivial rfl ?_
            refine .q (op_quoI rfl rfl ⟨by first | omega | (simp only [AV.len]; omega) | (simp only [AV.len, List.length_set]; omega) | assumption | (simp [AV.len]; done), ⟨by first | omega | (simp only [AV.len]; omega) | (simp only [AV.len, List.length_set]; omega) | assumption | (simp [AV.len]; done), by first | omega | (simp only [AV.len]; omega) | (simp only [AV.len, List.length_set]; omega) | assumption | (simp [AV.len]; done)⟩, by first | omega | (simp only [AV.len]; omega) | (simp only [AV.len, List.length_set]; omega) | assumption | (simp [AV.len]; done)⟩) trivial rfl ?_
            refine .q (op_assign rfl) trivial rfl ?_
            refine .nil ?_
            show Ev _ _ _ _ _
            refine .region ?_
            refine .q (op_move rfl) trivial rfl ?_
            refine .q (op_addI rfl rfl ⟨by first | omega | (simp only [AV.len]; omega) | (simp only [AV.len, List.length_set]; omega) | assumption | (simp [AV.len]; done), by first | omega | (simp only [AV.len]; omega) | (simp only [AV.len, List.length_set]; omega) | assumption | (simp [AV.len]; done)⟩) trivial rfl ?_
            refine .q (op_assign rfl) trivial rfl ?_
            refine .nil ?_
            exact ⟨⟨k + 1, by omega⟩, by (try dsimp only); omega, StLe.mk [(1000, 1016)] rfl rfl ⟨⟨_, rfl, by rfl, rfl⟩, ⟨_, rfl, by rfl, rfl⟩, ⟨_, rfl, by rfl, rfl⟩, ⟨_, rfl, by (simp only [AV.ren]; congr 1; omega), rfl⟩, ⟨_, rfl, by (simp only [AV.ren]; congr 1), rfl⟩, trivial⟩ ⟨⟨_, _, rfl, rfl, rfl, rfl, id, rfl⟩, ⟨_, _, rfl, rfl, rfl, rfl, id, rfl⟩, ⟨_, _, rfl, rfl, by (simp only [AV.ren]; rw [dn_succk]; congr 3; omega), rfl, id, rfl⟩, trivial⟩⟩
          · first | replace hc38 := of_decide_eq_true hc38 | replace hc38 := of_decide_eq_false hc38 | replace hc38 := eq_of_beq hc38 | replace hc38 := ne_of_beq_false hc38 | simp only [bne_iff_ne, ne_eq] at hc38 | simp only [bne_eq_false_iff_eq] at hc38
            refine .skip ?_
            show Ev _ _ _ _ _
            refine .seq ?_
            refine .region ?_
            refine .q (op_move rfl) trivial rfl ?_
            refine .q (op_move rfl) trivial rfl ?_
            refine .q (op_remI rfl rfl ⟨by first | omega | (simp only [AV.len]; omega) | (simp only [AV.len, List.length_set]; omega) | assumption | (simp [AV.len]; done), by first | omega | (simp only [AV.len]; omega) | (simp only [AV.len, List.length_set]; omega) | assumption | (simp [AV.len]; done)⟩) trivial rfl ?_
            refine .a (ap_build (us := [_]) (c := .aggI [_]) Tryd.underlying49 inf3 rfl (by decide) (by decide) ⟨rfl, rfl, rfl, trivial⟩ rfl) trivial rfl ?_
            refine .a (ap_cat Tryd.underlying49 inf3 rfl rfl rfl rfl (by first | omega | (simp only [AV.len, length_dn]; done) | (simp [AV.len]; done)) rfl rfl (by first | omega | (simp only [AV.len, length_dn]; done) | (simp [AV.len]; done)) rfl (by first | omega | (simp only [AV.len, length_dn]; done) | (simp [AV.len]; done))) trivial rfl ?_
            refine .q (op_assign rfl) trivial rfl ?_
            refine .nil ?_
            show Ev _ _ _ _ _
            refine .region ?_
            refine .q (op_move rfl) trivial rfl ?_
            refine .q (op_quoI rfl rfl ⟨by first | omega | (simp only [AV.len]; omega) | (simp only [AV.len, List.length_set]; omega) | assumption | (simp [AV.len]; done), ⟨by first | omega | (simp only [AV.len]; omega) | (simp only [AV.len, List.length_set]; omega) | assumption | (simp [AV.len]; done), by first | omega | (simp only [AV.len]; omega) | (simp only [AV.len, List.length_set]; omega) | assumption | (simp [AV.len]; done)⟩, by first | omega | (simp only [AV.len]; omega) | (simp only [AV.len, List.length_set]; omega) | assumption | (simp [AV.len]; done)⟩) trivial rfl ?_
            refine .q (op_assign rfl) trivial rfl ?_
            refine .nil ?_
            show Ev _ _ _ _ _
            refine .region ?_
            refine .q (op_move rfl) trivial rfl ?_
            refine .q (op_addI rfl rfl ⟨by first | omega | (simp only [AV.len]; omega) | (simp only [AV.len, List.length_set]; omega) | assumption | (simp [AV.len]; done), by first | omega | (simp only [AV.len]; omega) | (simp only [AV.len, List.length_set]; omega) | assumption | (simp [AV.len]; done)⟩) trivial rfl ?_
            refine .q (op_assign rfl) trivial rfl ?_
            refine .nil ?_
            exact ⟨⟨k + 1, by omega⟩, by (try dsimp only); omega, StLe.mk [(1000, 1016)] rfl rfl ⟨⟨_, rfl, by rfl, rfl⟩, ⟨_, rfl, by rfl, rfl⟩, ⟨_, rfl, by rfl, rfl⟩, ⟨_, rfl, by (simp only [AV.ren]; congr 1; omega), rfl⟩, ⟨_, rfl, by (simp only [AV.ren]; congr 1), rfl⟩, trivial⟩ ⟨⟨_, _, rfl, rfl, rfl, rfl, id, rfl⟩, ⟨_, _, rfl, rfl, rfl, rfl, id, rfl⟩, ⟨_, _, rfl, rfl, by (simp only [AV.ren]; rw [dn_succk]; congr 3; omega), rfl, id, rfl⟩, trivial⟩⟩
        · first | replace hc28 := of_decide_eq_true hc28 | replace hc28 := of_decide_eq_false hc28 | replace hc28 := eq_of_beq hc28 | replace hc28 := ne_of_beq_false hc28 | simp only [bne_iff_ne, ne_eq] at hc28 | simp only [bne_eq_false_iff_eq] at hc28
          refine .skip ?_
          show Ev _ _ _ _ _
          refine .seq ?_
          refine .seq ?_
          refine .region ?_
          refine .q (op_move rfl) trivial rfl ?_
          refine .q (op_move rfl) trivial rfl ?_
          refine .q (op_len_sl Tryd.underlying49 rfl) trivial rfl ?_
          refine .q (op_cmpI rfl rfl rfl) trivial rfl ?_
          refine .nil ?_
          show Ev _ _ _ _ _
          refine .cond rfl (fun hc38 => ?_) (fun hc38 => ?_)
          · first | replace hc38 := of_decide_eq_true hc38 | replace hc38 := of_decide_eq_false hc38 | replace hc38 := eq_of_beq hc38 | replace hc38 := ne_of_beq_false hc38 | simp only [bne_iff_ne, ne_eq] at hc38 | simp only [bne_eq_false_iff_eq] at hc38
            refine .region ?_
            refine .q (op_move rfl) trivial rfl ?_
            refine .q (op_move rfl) trivial rfl ?_
            refine .q (op_move rfl) trivial rfl ?_
            refine .q (ap_idx0 Tryd.underlying49 inf3.sz rfl rfl rfl (by first | omega | (simp only [AV.len]; omega) | (simp only [AV.len, List.length_set]; omega) | assumption | (simp [AV.len]; done))) trivial rfl ?_
            refine .q (op_load Tryd.underlying3 rfl rfl rfl rfl (by first | omega | (simp only [AV.len]; omega) | (simp only [AV.len, List.length_set]; omega) | assumption | (simp [AV.len]; done))) trivial rfl ?_
            refine .q (op_addI rfl rfl ⟨by first | omega | (simp only [AV.len]; omega) | (simp only [AV.len, List.length_set]; omega) | assumption | (simp [AV.len]; done), by first | omega | (simp only [AV.len]; omega) | (simp only [AV.len, List.length_set]; omega) | assumption | (simp [AV.len]; done)⟩) trivial rfl ?_
            refine .q (op_assign rfl) trivial rfl ?_
            refine .nil ?_
            show Ev _ _ _ _ _
            refine .seq ?_
            refine .region ?_
            refine .q (op_move rfl) trivial rfl ?_
            refine .q (op_move rfl) trivial rfl ?_
            refine .q (op_remI rfl rfl ⟨by first | omega | (simp only [AV.len]; omega) | (simp only [AV.len, List.length_set]; omega) | assumption | (simp [AV.len]; done), by first | omega | (simp only [AV.len]; omega) | (simp only [AV.len, List.length_set]; omega) | assumption | (simp [AV.len]; done)⟩) trivial rfl ?_
            refine .a (ap_build (us := [_]) (c := .aggI [_]) Tryd.underlying49 inf3 rfl (by decide) (by decide) ⟨rfl, rfl, rfl, trivial⟩ rfl) trivial rfl ?_
            refine .a (ap_cat Tryd.underlying49 inf3 rfl rfl rfl rfl (by first | omega | (simp only [AV.len, length_dn]; done) | (simp [AV.len]; done)) rfl rfl (by first | omega | (simp only [AV.len, length_dn]; done) | (simp [AV.len]; done)) rfl (by first | omega | (simp only [AV.len, length_dn]; done) | (simp [AV.len]; done))) trivial rfl ?_
            refine .q (op_assign rfl) trivial rfl ?_
            refine .nil ?_
            show Ev _ _ _ _ _
            refine .region ?_
            refine .q (op_move rfl) trivial rfl ?_
            refine .q (op_quoI rfl rfl ⟨by first | omega | (simp only [AV.len]; omega) | (simp only [AV.len, List.length_set]; omega) | assumption | (simp [AV.len]; done), ⟨by first | omega | (simp only [AV.len]; omega) | (simp only [AV.len, List.length_set]; omega) | assumption | (simp [AV.len]; done), by first | omega | (simp only [AV.len]; omega) | (simp only [AV.len, List.length_set]; omega) | assumption | (simp [AV.len]; done)⟩, by first | omega | (simp only [AV.len]; omega) | (simp only [AV.len, List.length_set]; omega) | assumption | (simp [AV.len]; done)⟩) trivial rfl ?_
            refine .q (op_assign rfl) trivial rfl ?_
            refine .nil ?_
            show Ev _ _ _ _ _
            refine .region ?_
            refine .q (op_move rfl) trivial rfl ?_
            refine .q (op_addI rfl rfl ⟨by first | omega | (simp only [AV.len]; omega) | (simp only [AV.len, List.length_set]; omega) | assumption | (simp [AV.len]; done), by first | omega | (simp only [AV.len]; omega) | (simp only [AV.len, List.length_set]; omega) | assumption | (simp [AV.len]; done)⟩) trivial rfl ?_
            refine .q (op_assign rfl) trivial rfl ?_
            refine .nil ?_
            exact ⟨⟨k + 1, by omega⟩, by (try dsimp only); omega, StLe.mk [(1000, 1016)] rfl rfl ⟨⟨_, rfl, by rfl, rfl⟩, ⟨_, rfl, by rfl, rfl⟩, ⟨_, rfl, by rfl, rfl⟩, ⟨_, rfl, by (simp only [AV.ren]; congr 1; omega), rfl⟩, ⟨_, rfl, by (simp only [AV.ren]; congr 1), rfl⟩, trivial⟩ ⟨⟨_, _, rfl, rfl, rfl, rfl, id, rfl⟩, ⟨_, _, rfl, rfl, rfl, rfl, id, rfl⟩, ⟨_, _, rfl, rfl, by (simp only [AV.ren]; rw [dn_succk]; congr 3; omega), rfl, id, rfl⟩, trivial⟩⟩
          · first | replace hc38 := of_decide_eq_true hc38 | replace hc38 := of_decide_eq_false hc38 | replace hc38 := eq_of_beq hc38 | replace hc38 := ne_of_beq_false hc38 | simp only [bne_iff_ne, ne_eq] at hc38 | simp only [bne_eq_false_iff_eq] at hc38
            refine .skip ?_
            show Ev _ _ _ _ _
            refine .seq ?_
            refine .region ?_
            refine .q (op_move rfl) trivial rfl ?_
            refine .q (op_move rfl) trivial rfl ?_
            refine .q (op_remI rfl rfl ⟨by first | omega | (simp only [AV.len]; omega) | (simp only [AV.len, List.length_set]; omega) | assumption | (simp [AV.len]; done), by first | omega | (simp only [AV.len]; omega) | (simp only [AV.len, List.length_set]; omega) | assumption | (simp [AV.len]; done)⟩) trivial rfl ?_
            refine .a (ap_build (us := [_]) (c := .aggI [_]) Tryd.underlying49 inf3 rfl (by decide) (by decide) ⟨rfl, rfl, rfl, trivial⟩ rfl) trivial rfl ?_
            refine .a (ap_cat Tryd.underlying49 inf3 rfl rfl rfl rfl (by first | omega | (simp only [AV.len, length_dn]; done) | (simp [AV.len]; done)) rfl rfl (by first | omega | (simp only [AV.len]; done) | (simp [AV.len]; done)) rfl (by first | omega | (simp only [AV.len, length_dn]; done) | (simp [AV.len]; done))) trivial rfl ?_
            refine .q (op_assign rfl) trivial rfl ?_
            refine .nil ?_
            show Ev _ _ _ _ _
            refine .region ?_
            refine .q (op_move rfl) trivial rfl ?_
            refine .q (op_quoI rfl rfl ⟨by first | omega | (simp only [AV.len]; omega) | (simp only [AV.len, List.length_set]; omega) | assumption | (simp [AV.len]; done), ⟨by first | omega | (simp only [AV.len]; omega) | (simp only [AV.len, List.length_set]; omega) | assumption | (simp [AV.len]; done), by first | omega | (simp only [AV.len]; omega) | (simp only [AV.len, List.length_set]; omega) | assumption | (simp [AV.len]; done)⟩, by first | omega | (simp only [AV.len]; omega) | (simp only [AV.len, List.length_set]; omega) | assumption | (simp [AV.len]; done)⟩) trivial rfl ?_
            refine .q (op_assign rfl) trivial rfl ?_
            refine .nil ?_
            show Ev _ _ _ _ _
            refine .region ?_
            refine .q (op_move rfl) trivial rfl ?_
            refine .q (op_addI rfl rfl ⟨by first | omega | (simp only [AV.len]; omega) | (simp only [AV.len, List.length_set]; omega) | assumption | (simp [AV.len]; done), by first | omega | (simp only [AV.len]; omega) | (simp only [AV.len, List.length_set]; omega) | assumption | (simp [AV.len]; done)⟩) trivial rfl ?_
            refine .q (op_assign rfl) trivial rfl ?_
            refine .nil ?_
            exact ⟨⟨k + 1, by omega⟩, by (try dsimp only); omega, StLe.mk [(1000, 1016)] rfl rfl ⟨⟨_, rfl, by rfl, rfl⟩, ⟨_, rfl, by rfl, rfl⟩, ⟨_, rfl, by rfl, rfl⟩, ⟨_, rfl, by (simp only [AV.ren]; congr 1; omega), rfl⟩, ⟨_, rfl, by (simp only [AV.ren]; congr 1), rfl⟩, trivial⟩ ⟨⟨_, _, rfl, rfl, rfl, rfl, id, rfl⟩, ⟨_, _, rfl, rfl, rfl, rfl, id, rfl⟩, ⟨_, _, rfl, rfl, by (simp only [AV.ren]; rw [dn_succk]; congr 3; omega), rfl, id, rfl⟩, trivial⟩⟩
      · first | replace hc22 := of_decide_eq_true hc22 | replace hc22 := of_decide_eq_false hc22 | replace hc22 := eq_of_beq hc22 | replace hc22 := ne_of_beq_false hc22 | simp only [bne_iff_ne, ne_eq] at hc22 | simp only [bne_eq_false_iff_eq] at hc22
        refine .exit ?_
        show Ev _ _ _ _ _
        refine .seq ?_
        refine .region ?_
        refine .q (op_move rfl) trivial rfl ?_
        refine .q (op_call (U := []) [(500, 1000)] [] (trim_dn k (a + b) (add_end (by omega) (by omega) (by omega)) (by omega)) Tryd.func87 (by kernel_rfl) rfl rfl rfl (⟨⟨_, rfl, rfl, rfl⟩, trivial⟩) (⟨⟨_, _, rfl, rfl, rfl, rfl, (fun h => by cases h), rfl⟩, trivial⟩) (trivial) (⟨(fun h => by cases h), trivial⟩) rfl) trivial rfl ?_
        refine .q (op_assign rfl) trivial rfl ?_
        refine .nil ?_
        show Ev _ _ _ _ _
        refine Ev.pre (H2 := [(1000, some ⟨.aggI (dg (a + b)), 3, true⟩)]) ⟨⟨.aggI (dn k (a + b)), dl (a + b), rfl, pre_dn k (a + b) (dl_le (add_end (by omega) (by omega) (by omega)))⟩, trivial⟩ ?_
        refine .ret ?_
        show RetOk _ _ _ _ _ _ _
        exact ret1v rfl (.inl rfl) rfl rfl ⟨rfl, trivial⟩
end Go.Proofs.YtgblhjmnenmlkaaDoor
namespace Go.Proofs.YtgblhjmnenmlkaaDoor
/-- The lowest n bytes, the lowest first. -/
def bsN (v : Nat) : Nat → List UInt8
  | 0 => []
  | i + 1 => bsN v i ++ [UInt8.ofNat (v / 256 ^ i % 256)]
theorem length_bsN (v n : Nat) : (bsN v n).length = n := by induction n with | zero => rfl | succ n ih => simp [bsN, ih]
theorem dk_byte (v i : Nat) : (if i % 2 = 1 then dk v (i / 2) / 256 else dk v (i / 2)) % 256 = v / 256 ^ i % 256 := by
  have hpow : 65536 ^ (i / 2) = 256 ^ (2 * (i / 2)) := by rw [Nat.pow_mul]
  unfold dk
  by_cases h : i % 2 = 1
  · rw [if_pos h]
    have e : 256 ^ i = 65536 ^ (i / 2) * 256 := by rw [hpow, ← Nat.pow_succ]; congr 1; omega
    rw [e, ← Nat.div_div_eq_div_mul]
    generalize v / 65536 ^ (i / 2) = x
    omega
  · rw [if_neg h]
    have e : 256 ^ i = 65536 ^ (i / 2) := by rw [hpow]; congr 1; omega
    rw [e]
    generalize v / 65536 ^ (i / 2) = x
    omega
/-- The borrow into digit k of a difference. -/
def bk (a b k : Nat) : Nat := if a % 65536 ^ k < b % 65536 ^ k then 1 else 0
theorem bk_zero (a b : Nat) : bk a b 0 = 0 := by simp [bk, Nat.mod_one]
theorem sub_step {a b : Nat} (h : b ≤ a) (k : Nat) : dk (a - b) k + dk b k + bk a b k = dk a k + 65536 * bk a b (k + 1) := by
  unfold dk bk
  have hp : 0 < 65536 ^ k := Nat.pow_pos (by decide)
  rw [Nat.pow_succ]
  generalize 65536 ^ k = P at *
  have e1 := Nat.div_add_mod a P
  have e2 := Nat.div_add_mod b P
  have m1 := Nat.mod_lt a hp
  have m2 := Nat.mod_lt b hp
  have ma : a % (P * 65536) = a % P + P * (a / P % 65536) := Nat.mod_mul
  have mb : b % (P * 65536) = b % P + P * (b / P % 65536) := Nat.mod_mul
  have hle : b / P ≤ a / P := Nat.div_le_div_right h
  have hd : (a - b) / P = a / P - b / P - (if a % P < b % P then 1 else 0) := by
    split
    · rename_i hlt
      have hne : b / P < a / P := by
        rcases Nat.lt_or_ge (b / P) (a / P) with h1 | h1
        · exact h1
        · have : a / P = b / P := by omega
          rw [this] at e1; omega
      have : a - b = (P + a % P - b % P) + P * (a / P - b / P - 1) := by
        rw [Nat.mul_sub, Nat.mul_sub, Nat.mul_one]
        have h3 : P * (b / P) + P ≤ P * (a / P) := by rw [← Nat.mul_succ]; exact Nat.mul_le_mul_left _ hne
        omega
      rw [this, Nat.add_mul_div_left _ _ hp, Nat.div_eq_of_lt (by omega)]; omega
    · rename_i hlt
      have : a - b = (a % P - b % P) + P * (a / P - b / P) := by
        rw [Nat.mul_sub]
        have h3 : P * (b / P) ≤ P * (a / P) := Nat.mul_le_mul_left _ hle
        omega
      rw [this, Nat.add_mul_div_left _ _ hp, Nat.div_eq_of_lt (by omega)]; omega
  rw [hd, ma, mb]
  have hle2 : (if a % P < b % P then 1 else 0) ≤ a / P - b / P := by
    split
    · rename_i hlt
      rcases Nat.lt_or_ge (b / P) (a / P) with h1 | h1
      · omega
      · have : a / P = b / P := by omega
        rw [this] at e1; omega
    · omega
  have hcmp : (a % P + P * (a / P % 65536) < b % P + P * (b / P % 65536)) ↔ (a / P % 65536 < b / P % 65536 + (if a % P < b % P then 1 else 0)) := by
    generalize a / P % 65536 = x
    generalize b / P % 65536 = y
    rcases Nat.lt_trichotomy x y with h1 | h1 | h1
    · have h2 : P * x + P ≤ P * y := by rw [← Nat.mul_succ]; exact Nat.mul_le_mul_left _ h1
      constructor
      · intro _; split <;> omega
      · intro _; omega
    · subst h1
      constructor
      · intro h2; rw [if_pos (by omega)]; omega
      · intro h2; split at h2 <;> omega
    · have h2 : P * y + P ≤ P * x := by rw [← Nat.mul_succ]; exact Nat.mul_le_mul_left _ h1
      constructor
      · intro h3; omega
      · intro h3; split at h3 <;> omega
  simp only [hcmp]
  have hc1 : (if a % P < b % P then 1 else 0 : Nat) ≤ 1 := by split <;> omega
  clear ma mb hd hcmp e1 e2 m1 m2
  generalize (if a % P < b % P then 1 else 0 : Nat) = c at *
  generalize a / P = A at *
  generalize b / P = D at *
  split <;> omega
theorem bk_le (a b k : Nat) : bk a b k ≤ 1 := by unfold bk; split <;> omega
theorem sub_lt {a b : Nat} : a - b < 65536 ^ dl a := Nat.lt_of_le_of_lt (Nat.sub_le _ _) (dl_lt a)
/-- A power of two. -/
theorem dl_pow (n : Nat) : dl (2 ^ n) = n / 16 + 1 := by
  have e : ∀ m, (65536 : Nat) ^ m = 2 ^ (16 * m) := fun m => by rw [Nat.pow_mul]
  have h1 : 2 ^ n < 65536 ^ (n / 16 + 1) := by rw [e]; exact Nat.pow_lt_pow_right (by decide) (by omega)
  have h2 : 65536 ^ (n / 16) ≤ 2 ^ n := by rw [e]; exact Nat.pow_le_pow_right (by decide) (by omega)
  have := dl_le h1
  have := dl_ge h2
  omega
theorem dg_pow (n : Nat) : (List.replicate (n / 16 + 1) (0 : Int)).set (n / 16) (1 * 2 ^ (n % 16)) = dg (2 ^ n) := by
  have e : ∀ m, (65536 : Nat) ^ m = 2 ^ (16 * m) := fun m => by rw [Nat.pow_mul]
  have hd : 2 ^ n / 65536 ^ (n / 16) = 2 ^ (n % 16) := by
    rw [e, Nat.pow_div (by omega) (by decide)]; congr 1; omega
  unfold dg
  rw [dl_pow, dn_succ, hd]
  have hlt : 2 ^ (n % 16) < 65536 := Nat.pow_lt_pow_right (n := 16) (by decide) (by omega)
  rw [Nat.mod_eq_of_lt hlt]
  have hz : dn (n / 16) (2 ^ n) = List.replicate (n / 16) 0 := by
    apply List.ext_getElem (by simp [length_dn])
    intro i h1 h2
    have hi : i < n / 16 := by simpa using h2
    have h3 := dn_get (n / 16) (2 ^ n) i hi
    rw [List.getD_eq_getElem?_getD, List.getElem?_eq_getElem h1] at h3
    simp only [Option.getD_some] at h3
    rw [h3, List.getElem_replicate, e, Nat.pow_div (by omega) (by decide)]
    have : 2 ^ (n - 16 * i) % 65536 = 0 := by
      obtain ⟨k, hk⟩ : ∃ k, n - 16 * i = 16 + k := ⟨n - 16 * i - 16, by omega⟩
      rw [hk, Nat.pow_add]
      exact Nat.mul_mod_right _ _
    rw [this]; rfl
  rw [hz, List.replicate_succ', List.set_append_right _ _ (by simp)]
  simp
/-- Digit k of a number shifted to the right. -/
theorem half_step (a n k : Nat) : (dk a (n / 16 + k) + 65536 * dk a (n / 16 + k + 1)) / 2 ^ (n % 16) % 65536 = dk (a / 2 ^ n) k := by
  unfold dk
  have e : ∀ m, (65536 : Nat) ^ m = 2 ^ (16 * m) := fun m => by rw [Nat.pow_mul]
  have hs : (2 : Nat) ^ n * 65536 ^ k = 65536 ^ (n / 16 + k) * 2 ^ (n % 16) := by
    rw [e, e, ← Nat.pow_add, ← Nat.pow_add]; congr 1; omega
  have h1 : a / 2 ^ n / 65536 ^ k = a / 65536 ^ (n / 16 + k) / 2 ^ (n % 16) := by
    rw [Nat.div_div_eq_div_mul, hs, ← Nat.div_div_eq_div_mul]
  have h2 : a / 65536 ^ (n / 16 + k + 1) = a / 65536 ^ (n / 16 + k) / 65536 := by rw [Nat.pow_succ, ← Nat.div_div_eq_div_mul]
  rw [h1, h2]
  generalize a / 65536 ^ (n / 16 + k) = x
  have h3 : x % 65536 + 65536 * (x / 65536 % 65536) = x % 4294967296 := by omega
  rw [h3]
  have hm : n % 16 < 16 := Nat.mod_lt _ (by decide)
  generalize n % 16 = m at *
  have : ∀ m, m < 16 → x % 4294967296 / 2 ^ m % 65536 = x / 2 ^ m % 65536 := by
    intro m hm
    have hm2 : m = 0 ∨ m = 1 ∨ m = 2 ∨ m = 3 ∨ m = 4 ∨ m = 5 ∨ m = 6 ∨ m = 7 ∨ m = 8 ∨ m = 9 ∨ m = 10 ∨ m = 11 ∨ m = 12 ∨ m = 13 ∨ m = 14 ∨ m = 15 := by omega
    rcases hm2 with rfl | rfl | rfl | rfl | rfl | rfl | rfl | rfl | rfl | rfl | rfl | rfl | rfl | rfl | rfl | rfl <;> omega
  exact this m hm
theorem half_zero {a n : Nat} (h : dl a ≤ n / 16) : a / 2 ^ n = 0 := by
  have h1 := dl_lt a
  have h2 : 65536 ^ dl a ≤ 2 ^ n := by rw [show (65536 : Nat) = 2 ^ 16 from rfl, ← Nat.pow_mul]; exact Nat.pow_le_pow_right (by decide) (by omega)
  exact Nat.div_eq_of_lt (by omega)
theorem half_lt (a n : Nat) : a / 2 ^ n < 65536 ^ (dl a - n / 16) ∨ dl a ≤ n / 16 := by
  rcases Nat.lt_or_ge (n / 16) (dl a) with h | h
  · left
    rw [Nat.div_lt_iff_lt_mul (Nat.pow_pos (by decide))]
    have h1 := dl_lt a
    have h2 : 65536 ^ dl a ≤ 65536 ^ (dl a - n / 16) * 2 ^ n := by
      rw [show (65536 : Nat) = 2 ^ 16 from rfl, ← Nat.pow_mul, ← Nat.pow_mul, ← Nat.pow_add]; exact Nat.pow_le_pow_right (by decide) (by omega)
    omega
  · right; exact h
end Go.Proofs.YtgblhjmnenmlkaaDoor
namespace Go.Proofs.YtgblhjmnenmlkaaDoor
open Go.RowKit
theorem ofI8_nat (k : Nat) : ofI8 (k : Int) = UInt8.ofNat (k % 256) := by
  unfold ofI8; congr 1
theorem ofI8_mod (k : Nat) : ofI8 ((k : Int) % 256) = UInt8.ofNat (k % 256) := by
  unfold ofI8; congr 1; omega
theorem pow_in {m : Nat} (h : m < 16) : InI (1 * 2 ^ m) := by
  have hm : m = 0 ∨ m = 1 ∨ m = 2 ∨ m = 3 ∨ m = 4 ∨ m = 5 ∨ m = 6 ∨ m = 7 ∨ m = 8 ∨ m = 9 ∨ m = 10 ∨ m = 11 ∨ m = 12 ∨ m = 13 ∨ m = 14 ∨ m = 15 := by omega
  unfold InI
  rcases hm with rfl | rfl | rfl | rfl | rfl | rfl | rfl | rfl | rfl | rfl | rfl | rfl | rfl | rfl | rfl | rfl <;> decide
set_option maxRecDepth 100000 in
theorem power_ev (n : Nat) (hn : n ≤ 1000000) : Meets Tryd.prog 52 [.i64 (n : Int)] [] (.sl 1000 0 (dl (2 ^ n)) 1) [(1000, some ⟨.aggI (dg (2 ^ n)), 3, true⟩)] := by
  refine meets_of_ev (nt := 16) Tryd.func52 rfl rfl (Nat.le_of_ble_eq_true rfl) ?_
  refine .seq ?_
  refine .region ?_
  refine .q (op_assign rfl) trivial rfl ?_
  refine .nil ?_
  show Ev _ _ _ _ _
  refine .seq ?_
  refine .region ?_
  refine .q (op_move rfl) trivial rfl ?_
  refine .q (op_quoI rfl rfl ⟨by first | omega | (simp only [AV.len]; omega) | (simp only [AV.len, List.length_set]; omega) | assumption | (simp [AV.len]; done), ⟨by first | omega | (simp only [AV.len]; omega) | (simp only [AV.len, List.length_set]; omega) | assumption | (simp [AV.len]; done), by first | omega | (simp only [AV.len]; omega) | (simp only [AV.len, List.length_set]; omega) | assumption | (simp [AV.len]; done)⟩, by first | omega | (simp only [AV.len]; omega) | (simp only [AV.len, List.length_set]; omega) | assumption | (simp [AV.len]; done)⟩) trivial rfl ?_
  refine .q (op_addI rfl rfl ⟨by first | omega | (simp only [AV.len]; omega) | (simp only [AV.len, List.length_set]; omega) | assumption | (simp [AV.len]; done), by first | omega | (simp only [AV.len]; omega) | (simp only [AV.len, List.length_set]; omega) | assumption | (simp [AV.len]; done)⟩) trivial rfl ?_
  refine .a (ap_make (n := n / 16 + 1) (c := .aggI (List.replicate (n / 16 + 1) 0)) Tryd.underlying49 inf3 rfl rfl (by omega) (by omega) (by first | omega | (simp only [AV.len]; omega) | (simp only [AV.len, List.length_set]; omega) | assumption | (simp [AV.len]; done)) (rel_zero3) rfl (by simp [AV.list, AV.parts])) trivial rfl ?_
  refine .q (op_assign rfl) trivial rfl ?_
  refine .nil ?_
  show Ev _ _ _ _ _
  refine .seq ?_
  refine .region ?_
  refine .q (op_move rfl) trivial rfl ?_
  refine .q (op_move rfl) trivial rfl ?_
  refine .q (op_quoI rfl rfl ⟨by first | omega | (simp only [AV.len]; omega) | (simp only [AV.len, List.length_set]; omega) | assumption | (simp [AV.len]; done), ⟨by first | omega | (simp only [AV.len]; omega) | (simp only [AV.len, List.length_set]; omega) | assumption | (simp [AV.len]; done), by first | omega | (simp only [AV.len]; omega) | (simp only [AV.len, List.length_set]; omega) | assumption | (simp [AV.len]; done)⟩, by first | omega | (simp only [AV.len]; omega) | (simp only [AV.len, List.length_set]; omega) | assumption | (simp [AV.len]; done)⟩) trivial rfl ?_
  refine .q (op_move rfl) trivial rfl ?_
  refine .q (op_remI rfl rfl ⟨by first | omega | (simp only [AV.len]; omega) | (simp only [AV.len, List.length_set]; omega) | assumption | (simp [AV.len]; done), by first | omega | (simp only [AV.len]; omega) | (simp only [AV.len, List.length_set]; omega) | assumption | (simp [AV.len]; done)⟩) trivial rfl ?_
  refine .q (op_shlI (n := n % 16) rfl rfl (by simp only [shiftBy]; rw [show (n : Int) % 16 = ((n % 16 : Nat) : Int) by omega]) ⟨by omega, pow_in (by omega)⟩) trivial rfl ?_
  refine .q (ap_idx0 Tryd.underlying49 inf3.sz rfl rfl (i := n / 16) (by omega) (by omega)) trivial rfl ?_
  refine .w (op_store inf3.sz rfl rfl rfl rfl rfl (by simp only [AV.len, List.length_replicate]; omega)) trivial rfl ?_
  refine .asH (.aggI (dg (2 ^ n))) (congrArg AV.aggI (dg_pow n)) ?_
  refine .nil ?_
  show Ev _ _ _ _ _
  refine .seq ?_
  refine .region ?_
  refine .q (op_move rfl) trivial rfl ?_
  refine .q (op_assign rfl) trivial rfl ?_
  refine .nil ?_
  show Ev _ _ _ _ _
  refine .ret ?_
  show RetOk _ _ _ _ _ _ _
  exact ret1v rfl (.inl rfl) rfl (by rw [dl_pow]) ⟨rfl, trivial⟩
set_option maxHeartbeats 1000000 in
set_option maxRecDepth 100000 in
theorem bytes_ev (v n : Nat) (hn : n ≤ 1000000) : Meets Tryd.prog 59 [.sl 500 0 (dl v) 1, .i64 (n : Int)] [(500, some ⟨.aggI (dg v), 3, false⟩)] (.str (bsN v n)) [] := by
  refine meets_of_ev (nt := 37) Tryd.func59 rfl rfl (Nat.le_of_ble_eq_true rfl) ?_
  refine .seq ?_
  refine .region ?_
  refine .q (op_assign rfl) trivial rfl ?_
  refine .nil ?_
  show Ev _ _ _ _ _
  refine .seq ?_
  refine .region ?_
  refine .a (ap_build0 (z := 1) (c := .aggB []) Tryd.underlying23 inf5 rfl) trivial rfl ?_
  refine .q (op_assign rfl) trivial rfl ?_
  refine .nil ?_
  show Ev _ _ _ _ _
  refine .seq ?_
  refine .seq ?_
  refine .region ?_
  refine .q (op_assign rfl) trivial rfl ?_
  refine .nil ?_
  show Ev _ _ _ _ _
  refine .block ?_
  refine Ev.loop (ι := { k : Nat // k ≤ n }) (fun q => ⟨[(0, .sl 500 0 (dl v) 1), (1, .i64 (n : Int)), (5, .sl 1000 0 q.1 1), (6, .i64 ((q.1 : Nat) : Int))], [(500, some ⟨.aggI (dg v), 3, false⟩), (1000, some ⟨.aggB (bsN v q.1), 5, true⟩)], 1008⟩) (fun q => n - q.1) ⟨0, Nat.zero_le _⟩ (StLe.mk [(1000, 1000)] rfl rfl ⟨⟨_, rfl, by first | rfl | (simp only [AV.ren]; congr 1; omega), rfl⟩, ⟨_, rfl, by first | rfl | (simp only [AV.ren]; congr 1; omega), rfl⟩, ⟨_, rfl, by first | rfl | (simp only [AV.ren]; congr 1; omega), rfl⟩, ⟨_, rfl, by first | rfl | (simp only [AV.ren]; congr 1; omega), rfl⟩, trivial⟩ ⟨⟨_, _, rfl, rfl, rfl, rfl, id, rfl⟩, ⟨_, _, rfl, rfl, rfl, rfl, id, rfl⟩, trivial⟩) ?_
  rintro ⟨k, hk⟩
  try dsimp only
  have hby := dk_byte v k
  have hl := length_bsN v k
  have hg : k / 2 < dl v → (dg v).getD (k / 2) 0 = (dk v (k / 2) : Int) := fun h => dn_getk _ _ _ h
  have hz : dl v ≤ k / 2 → dk v (k / 2) = 0 := dk_high
  have d1 := dk_lt v (k / 2)
  have l1 := length_dg v
  refine .seq ?_
  refine .seq ?_
  refine .region ?_
  refine .q (op_move rfl) trivial rfl ?_
  refine .q (op_move rfl) trivial rfl ?_
  refine .q (op_cmpI rfl rfl rfl) trivial rfl ?_
  refine .nil ?_
  show Ev _ _ _ _ _
  refine .cond rfl (fun hc11 => ?_) (fun hc11 => ?_)
  · first | replace hc11 := of_decide_eq_true hc11 | replace hc11 := of_decide_eq_false hc11 | replace hc11 := eq_of_beq hc11 | replace hc11 := ne_of_beq_false hc11 | simp only [bne_iff_ne, ne_eq] at hc11 | simp only [bne_eq_false_iff_eq] at hc11
    refine .skip ?_
    show Ev _ _ _ _ _
    refine .seq ?_
    refine .block ?_
    refine .seq ?_
    refine .region ?_
    refine .q (op_assign rfl) trivial rfl ?_
    refine .nil ?_
    show Ev _ _ _ _ _
    refine .seq ?_
    refine .seq ?_
    refine .region ?_
    refine .q (op_move rfl) trivial rfl ?_
    refine .q (op_quoI rfl rfl ⟨by first | omega | (simp only [AV.len]; omega) | (simp only [AV.len, List.length_set]; omega) | assumption | (simp [AV.len]; done), ⟨by first | omega | (simp only [AV.len]; omega) | (simp only [AV.len, List.length_set]; omega) | assumption | (simp [AV.len]; done), by first | omega | (simp only [AV.len]; omega) | (simp only [AV.len, List.length_set]; omega) | assumption | (simp [AV.len]; done)⟩, by first | omega | (simp only [AV.len]; omega) | (simp only [AV.len, List.length_set]; omega) | assumption | (simp [AV.len]; done)⟩) trivial rfl ?_
    refine .q (op_move rfl) trivial rfl ?_
    refine .q (op_len_sl Tryd.underlying49 rfl) trivial rfl ?_
    refine .q (op_cmpI rfl rfl rfl) trivial rfl ?_
    refine .nil ?_
    show Ev _ _ _ _ _
    refine .cond rfl (fun hc18 => ?_) (fun hc18 => ?_)
    · first | replace hc18 := of_decide_eq_true hc18 | replace hc18 := of_decide_eq_false hc18 | replace hc18 := eq_of_beq hc18 | replace hc18 := ne_of_beq_false hc18 | simp only [bne_iff_ne, ne_eq] at hc18 | simp only [bne_eq_false_iff_eq] at hc18
      refine .region ?_
      refine .q (op_move rfl) trivial rfl ?_
      refine .q (op_move rfl) trivial rfl ?_
      refine .q (op_quoI rfl rfl ⟨by first | omega | (simp only [AV.len]; omega) | (simp only [AV.len, List.length_set]; omega) | assumption | (simp [AV.len]; done), ⟨by first | omega | (simp only [AV.len]; omega) | (simp only [AV.len, List.length_set]; omega) | assumption | (simp [AV.len]; done), by first | omega | (simp only [AV.len]; omega) | (simp only [AV.len, List.length_set]; omega) | assumption | (simp [AV.len]; done)⟩, by first | omega | (simp only [AV.len]; omega) | (simp only [AV.len, List.length_set]; omega) | assumption | (simp [AV.len]; done)⟩) trivial rfl ?_
      refine .q (ap_idx0 Tryd.underlying49 inf3.sz rfl rfl (i := k / 2) (by omega) (by omega)) trivial rfl ?_
      refine .q (op_load Tryd.underlying3 rfl rfl rfl rfl (by first | omega | (simp only [AV.len]; omega) | (simp only [AV.len, List.length_set]; omega) | assumption | (simp [AV.len]; done))) trivial rfl ?_
      refine .as (.i64 (dk v (k / 2) : Int)) (congrArg AV.i64 (hg (by omega))) ?_
      refine .q (op_assign rfl) trivial rfl ?_
      refine .nil ?_
      show Ev _ _ _ _ _
      refine .seq ?_
      refine .seq ?_
      refine .region ?_
      refine .q (op_move rfl) trivial rfl ?_
      refine .q (op_remI rfl rfl ⟨by first | omega | (simp only [AV.len]; omega) | (simp only [AV.len, List.length_set]; omega) | assumption | (simp [AV.len]; done), by first | omega | (simp only [AV.len]; omega) | (simp only [AV.len, List.length_set]; omega) | assumption | (simp [AV.len]; done)⟩) trivial rfl ?_
      refine .q (op_cmpI rfl rfl rfl) trivial rfl ?_
      refine .nil ?_
      show Ev _ _ _ _ _
      refine .cond rfl (fun hc26 => ?_) (fun hc26 => ?_)
      · first | replace hc26 := of_decide_eq_true hc26 | replace hc26 := of_decide_eq_false hc26 | replace hc26 := eq_of_beq hc26 | replace hc26 := ne_of_beq_false hc26 | simp only [bne_iff_ne, ne_eq] at hc26 | simp only [bne_eq_false_iff_eq] at hc26
        refine .region ?_
        refine .q (op_move rfl) trivial rfl ?_
        refine .q (op_quoI rfl rfl ⟨by first | omega | (simp only [AV.len]; omega) | (simp only [AV.len, List.length_set]; omega) | assumption | (simp [AV.len]; done), ⟨by first | omega | (simp only [AV.len]; omega) | (simp only [AV.len, List.length_set]; omega) | assumption | (simp [AV.len]; done), by first | omega | (simp only [AV.len]; omega) | (simp only [AV.len, List.length_set]; omega) | assumption | (simp [AV.len]; done)⟩, by first | omega | (simp only [AV.len]; omega) | (simp only [AV.len, List.length_set]; omega) | assumption | (simp [AV.len]; done)⟩) trivial rfl ?_
        refine .q (op_assign rfl) trivial rfl ?_
        refine .nil ?_
        show Ev _ _ _ _ _
        refine .region ?_
        refine .q (op_move rfl) trivial rfl ?_
        refine .q (op_move rfl) trivial rfl ?_
        refine .q (op_remI rfl rfl ⟨by first | omega | (simp only [AV.len]; omega) | (simp only [AV.len, List.length_set]; omega) | assumption | (simp [AV.len]; done), by first | omega | (simp only [AV.len]; omega) | (simp only [AV.len, List.length_set]; omega) | assumption | (simp [AV.len]; done)⟩) trivial rfl ?_
        refine .q (op_conv Tryd.underlying3 Tryd.underlying5 rfl rfl) trivial rfl ?_
        refine .a (ap_build (us := [_]) (c := .aggB [_]) Tryd.underlying23 inf5 rfl (by decide) (by decide) ⟨rfl, rfl, rfl, trivial⟩ rfl) trivial rfl ?_
        refine .a (ap_cat Tryd.underlying23 inf5 rfl rfl rfl rfl (by first | omega | (simp only [AV.len, length_bsN]; done) | (simp [AV.len]; done)) rfl rfl (by first | omega | (simp only [AV.len]; done) | (simp [AV.len]; done)) rfl (by first | omega | (simp only [AV.len, length_dn, length_bsN]; done) | (simp [AV.len]; done))) trivial rfl ?_
        refine .q (op_assign rfl) trivial rfl ?_
        refine .nil ?_
        show Ev _ _ _ _ _
        refine .region ?_
        refine .q (op_move rfl) trivial rfl ?_
        refine .q (op_addI rfl rfl ⟨by first | omega | (simp only [AV.len]; omega) | (simp only [AV.len, List.length_set]; omega) | assumption | (simp [AV.len]; done), by first | omega | (simp only [AV.len]; omega) | (simp only [AV.len, List.length_set]; omega) | assumption | (simp [AV.len]; done)⟩) trivial rfl ?_
        refine .q (op_assign rfl) trivial rfl ?_
        refine .nil ?_
        exact ⟨⟨k + 1, by omega⟩, by (try dsimp only); omega, StLe.mk [(1000, 1016)] rfl rfl ⟨⟨_, rfl, by rfl, rfl⟩, ⟨_, rfl, by rfl, rfl⟩, ⟨_, rfl, by rfl, rfl⟩, ⟨_, rfl, by rfl, rfl⟩, trivial⟩ ⟨⟨_, _, rfl, rfl, rfl, rfl, id, rfl⟩, ⟨_, _, rfl, rfl, by (simp only [AV.ren, bsN]; rw [← hby]; first | (rw [if_pos (by omega)]; rw [show ((dk v (k / 2) : Nat) : Int) / 256 = ((dk v (k / 2) / 256 : Nat) : Int) by simp, ofI8_mod]; done) | (rw [if_neg (by omega), ofI8_mod]; done) | (rw [hz (by omega)]; split <;> rfl)), rfl, id, rfl⟩, trivial⟩⟩
      · first | replace hc26 := of_decide_eq_true hc26 | replace hc26 := of_decide_eq_false hc26 | replace hc26 := eq_of_beq hc26 | replace hc26 := ne_of_beq_false hc26 | simp only [bne_iff_ne, ne_eq] at hc26 | simp only [bne_eq_false_iff_eq] at hc26
        refine .skip ?_
        show Ev _ _ _ _ _
        refine .region ?_
        refine .q (op_move rfl) trivial rfl ?_
        refine .q (op_move rfl) trivial rfl ?_
        refine .q (op_remI rfl rfl ⟨by first | omega | (simp only [AV.len]; omega) | (simp only [AV.len, List.length_set]; omega) | assumption | (simp [AV.len]; done), by first | omega | (simp only [AV.len]; omega) | (simp only [AV.len, List.length_set]; omega) | assumption | (simp [AV.len]; done)⟩) trivial rfl ?_
        refine .q (op_conv Tryd.underlying3 Tryd.underlying5 rfl rfl) trivial rfl ?_
        refine .a (ap_build (us := [_]) (c := .aggB [_]) Tryd.underlying23 inf5 rfl (by decide) (by decide) ⟨rfl, rfl, rfl, trivial⟩ rfl) trivial rfl ?_
        refine .a (ap_cat Tryd.underlying23 inf5 rfl rfl rfl rfl (by first | omega | (simp only [AV.len, length_bsN]; done) | (simp [AV.len]; done)) rfl rfl (by first | omega | (simp only [AV.len]; done) | (simp [AV.len]; done)) rfl (by first | omega | (simp only [AV.len, length_dn, length_bsN]; done) | (simp [AV.len]; done))) trivial rfl ?_
        refine .q (op_assign rfl) trivial rfl ?_
        refine .nil ?_
        show Ev _ _ _ _ _
        refine .region ?_
        refine .q (op_move rfl) trivial rfl ?_
        refine .q (op_addI rfl rfl ⟨by first | omega | (simp only [AV.len]; omega) | (simp only [AV.len, List.length_set]; omega) | assumption | (simp [AV.len]; done), by first | omega | (simp only [AV.len]; omega) | (simp only [AV.len, List.length_set]; omega) | assumption | (simp [AV.len]; done)⟩) trivial rfl ?_
        refine .q (op_assign rfl) trivial rfl ?_
        refine .nil ?_
        exact ⟨⟨k + 1, by omega⟩, by (try dsimp only); omega, StLe.mk [(1000, 1016)] rfl rfl ⟨⟨_, rfl, by rfl, rfl⟩, ⟨_, rfl, by rfl, rfl⟩, ⟨_, rfl, by rfl, rfl⟩, ⟨_, rfl, by rfl, rfl⟩, trivial⟩ ⟨⟨_, _, rfl, rfl, rfl, rfl, id, rfl⟩, ⟨_, _, rfl, rfl, by (simp only [AV.ren, bsN]; rw [← hby]; first | (rw [if_pos (by omega)]; rw [show ((dk v (k / 2) : Nat) : Int) / 256 = ((dk v (k / 2) / 256 : Nat) : Int) by simp, ofI8_mod]; done) | (rw [if_neg (by omega), ofI8_mod]; done) | (rw [hz (by omega)]; split <;> rfl)), rfl, id, rfl⟩, trivial⟩⟩
    · first | replace hc18 := of_decide_eq_true hc18 | replace hc18 := of_decide_eq_false hc18 | replace hc18 := eq_of_beq hc18 | replace hc18 := ne_of_beq_false hc18 | simp only [bne_iff_ne, ne_eq] at hc18 | simp only [bne_eq_false_iff_eq] at hc18
      refine .skip ?_
      show Ev _ _ _ _ _
      refine .seq ?_
      refine .seq ?_
      refine .region ?_
      refine .q (op_move rfl) trivial rfl ?_
      refine .q (op_remI rfl rfl ⟨by first | omega | (simp only [AV.len]; omega) | (simp only [AV.len, List.length_set]; omega) | assumption | (simp [AV.len]; done), by first | omega | (simp only [AV.len]; omega) | (simp only [AV.len, List.length_set]; omega) | assumption | (simp [AV.len]; done)⟩) trivial rfl ?_
      refine .q (op_cmpI rfl rfl rfl) trivial rfl ?_
      refine .nil ?_
      show Ev _ _ _ _ _
      refine .cond rfl (fun hc26 => ?_) (fun hc26 => ?_)
      · first | replace hc26 := of_decide_eq_true hc26 | replace hc26 := of_decide_eq_false hc26 | replace hc26 := eq_of_beq hc26 | replace hc26 := ne_of_beq_false hc26 | simp only [bne_iff_ne, ne_eq] at hc26 | simp only [bne_eq_false_iff_eq] at hc26
        refine .region ?_
        refine .q (op_move rfl) trivial rfl ?_
        refine .q (op_quoI rfl rfl ⟨by first | omega | (simp only [AV.len]; omega) | (simp only [AV.len, List.length_set]; omega) | assumption | (simp [AV.len]; done), ⟨by first | omega | (simp only [AV.len]; omega) | (simp only [AV.len, List.length_set]; omega) | assumption | (simp [AV.len]; done), by first | omega | (simp only [AV.len]; omega) | (simp only [AV.len, List.length_set]; omega) | assumption | (simp [AV.len]; done)⟩, by first | omega | (simp only [AV.len]; omega) | (simp only [AV.len, List.length_set]; omega) | assumption | (simp [AV.len]; done)⟩) trivial rfl ?_
        refine .q (op_assign rfl) trivial rfl ?_
        refine .nil ?_
        show Ev _ _ _ _ _
        refine .region ?_
        refine .q (op_move rfl) trivial rfl ?_
        refine .q (op_move rfl) trivial rfl ?_
        refine .q (op_remI rfl rfl ⟨by first | omega | (simp only [AV.len]; omega) | (simp only [AV.len, List.length_set]; omega) | assumption | (simp [AV.len]; done), by first | omega | (simp only [AV.len]; omega) | (simp only [AV.len, List.length_set]; omega) | assumption | (simp [AV.len]; done)⟩) trivial rfl ?_
        refine .q (op_conv Tryd.underlying3 Tryd.underlying5 rfl rfl) trivial rfl ?_
        refine .a (ap_build (us := [_]) (c := .aggB [_]) Tryd.underlying23 inf5 rfl (by decide) (by decide) ⟨rfl, rfl, rfl, trivial⟩ rfl) trivial rfl ?_
        refine .a (ap_cat Tryd.underlying23 inf5 rfl rfl rfl rfl (by first | omega | (simp only [AV.len, length_bsN]; done) | (simp [AV.len]; done)) rfl rfl (by first | omega | (simp only [AV.len]; done) | (simp [AV.len]; done)) rfl (by first | omega | (simp only [AV.len, length_dn, length_bsN]; done) | (simp [AV.len]; done))) trivial rfl ?_
        refine .q (op_assign rfl) trivial rfl ?_
        refine .nil ?_
        show Ev _ _ _ _ _
        refine .region ?_
        refine .q (op_move rfl) trivial rfl ?_
        refine .q (op_addI rfl rfl ⟨by first | omega | (simp only [AV.len]; omega) | (simp only [AV.len, List.length_set]; omega) | assumption | (simp [AV.len]; done), by first | omega | (simp only [AV.len]; omega) | (simp only [AV.len, List.length_set]; omega) | assumption | (simp [AV.len]; done)⟩) trivial rfl ?_
        refine .q (op_assign rfl) trivial rfl ?_
        refine .nil ?_
        exact ⟨⟨k + 1, by omega⟩, by (try dsimp only); omega, StLe.mk [(1000, 1016)] rfl rfl ⟨⟨_, rfl, by rfl, rfl⟩, ⟨_, rfl, by rfl, rfl⟩, ⟨_, rfl, by rfl, rfl⟩, ⟨_, rfl, by rfl, rfl⟩, trivial⟩ ⟨⟨_, _, rfl, rfl, rfl, rfl, id, rfl⟩, ⟨_, _, rfl, rfl, by (simp only [AV.ren, bsN]; rw [← hby]; first | (rw [if_pos (by omega)]; rw [show ((dk v (k / 2) : Nat) : Int) / 256 = ((dk v (k / 2) / 256 : Nat) : Int) by simp, ofI8_mod]; done) | (rw [if_neg (by omega), ofI8_mod]; done) | (rw [hz (by omega)]; split <;> rfl)), rfl, id, rfl⟩, trivial⟩⟩
      · first | replace hc26 := of_decide_eq_true hc26 | replace hc26 := of_decide_eq_false hc26 | replace hc26 := eq_of_beq hc26 | replace hc26 := ne_of_beq_false hc26 | simp only [bne_iff_ne, ne_eq] at hc26 | simp only [bne_eq_false_iff_eq] at hc26
        refine .skip ?_
        show Ev _ _ _ _ _
        refine .region ?_
        refine .q (op_move rfl) trivial rfl ?_
        refine .q (op_move rfl) trivial rfl ?_
        refine .q (op_remI rfl rfl ⟨by first | omega | (simp only [AV.len]; omega) | (simp only [AV.len, List.length_set]; omega) | assumption | (simp [AV.len]; done), by first | omega | (simp only [AV.len]; omega) | (simp only [AV.len, List.length_set]; omega) | assumption | (simp [AV.len]; done)⟩) trivial rfl ?_
        refine .q (op_conv Tryd.underlying3 Tryd.underlying5 rfl rfl) trivial rfl ?_
        refine .a (ap_build (us := [_]) (c := .aggB [_]) Tryd.underlying23 inf5 rfl (by decide) (by decide) ⟨rfl, rfl, rfl, trivial⟩ rfl) trivial rfl ?_
        refine .a (ap_cat Tryd.underlying23 inf5 rfl rfl rfl rfl (by first | omega | (simp only [AV.len, length_bsN]; done) | (simp [AV.len]; done)) rfl rfl (by first | omega | (simp only [AV.len]; done) | (simp [AV.len]; done)) rfl (by first | omega | (simp only [AV.len, length_dn, length_bsN]; done) | (simp [AV.len]; done))) trivial rfl ?_
        refine .q (op_assign rfl) trivial rfl ?_
        refine .nil ?_
        show Ev _ _ _ _ _
        refine .region ?_
        refine .q (op_move rfl) trivial rfl ?_
        refine .q (op_addI rfl rfl ⟨by first | omega | (simp only [AV.len]; omega) | (simp only [AV.len, List.length_set]; omega) | assumption | (simp [AV.len]; done), by first | omega | (simp only [AV.len]; omega) | (simp only [AV.len, List.length_set]; omega) | assumption | (simp [AV.len]; done)⟩) trivial rfl ?_
        refine .q (op_assign rfl) trivial rfl ?_
        refine .nil ?_
        exact ⟨⟨k + 1, by omega⟩, by (try dsimp only); omega, StLe.mk [(1000, 1016)] rfl rfl ⟨⟨_, rfl, by rfl, rfl⟩, ⟨_, rfl, by rfl, rfl⟩, ⟨_, rfl, by rfl, rfl⟩, ⟨_, rfl, by rfl, rfl⟩, trivial⟩ ⟨⟨_, _, rfl, rfl, rfl, rfl, id, rfl⟩, ⟨_, _, rfl, rfl, by (simp only [AV.ren, bsN]; rw [← hby]; first | (rw [if_pos (by omega)]; rw [show ((dk v (k / 2) : Nat) : Int) / 256 = ((dk v (k / 2) / 256 : Nat) : Int) by simp, ofI8_mod]; done) | (rw [if_neg (by omega), ofI8_mod]; done) | (rw [hz (by omega)]; split <;> rfl)), rfl, id, rfl⟩, trivial⟩⟩
  · first | replace hc11 := of_decide_eq_true hc11 | replace hc11 := of_decide_eq_false hc11 | replace hc11 := eq_of_beq hc11 | replace hc11 := ne_of_beq_false hc11 | simp only [bne_iff_ne, ne_eq] at hc11 | simp only [bne_eq_false_iff_eq] at hc11
    refine .exit ?_
    show Ev _ _ _ _ _
    refine .seq ?_
    refine .region ?_
    refine .q (op_move rfl) trivial rfl ?_
    refine .q (op_bytes_str Tryd.underlying23 Tryd.underlying5 Tryd.underlying9 rfl rfl rfl (by rw [length_bsN]; omega)) trivial rfl ?_
    refine .q (op_assign rfl) trivial rfl ?_
    refine .nil ?_
    show Ev _ _ _ _ _
    refine .ret ?_
    show RetOk _ _ _ _ _ _ _
    have e : k = n := by omega
    exact ret1v rfl (.inl rfl) rfl (by rw [e, List.drop_zero, List.take_of_length_le (by rw [length_bsN]; omega)]) trivial
set_option maxHeartbeats 1000000 in
set_option maxRecDepth 100000 in
theorem sub_ev (a b : Nat) (h : b ≤ a) (ha : dl a ≤ 1000) (_hb : dl b ≤ 1000) : Meets Tryd.prog 51 [.sl 500 0 (dl a) 1, .sl 501 0 (dl b) 1] [(500, some ⟨.aggI (dg a), 3, false⟩), (501, some ⟨.aggI (dg b), 3, false⟩)] (.sl 1000 0 (dl (a - b)) 1) [(1000, some ⟨.aggI (dg (a - b)), 3, true⟩)] := by
  refine meets_of_ev (nt := 42) Tryd.func51 rfl rfl (Nat.le_of_ble_eq_true rfl) ?_
  refine .seq ?_
  refine .region ?_
  refine .q (op_assign rfl) trivial rfl ?_
  refine .nil ?_
  show Ev _ _ _ _ _
  refine .seq ?_
  refine .region ?_
  refine .a (ap_build0 (z := 1) (c := .aggI []) Tryd.underlying49 inf3 rfl) trivial rfl ?_
  refine .q (op_assign rfl) trivial rfl ?_
  refine .nil ?_
  show Ev _ _ _ _ _
  refine .seq ?_
  refine .region ?_
  refine .q (op_assign rfl) trivial rfl ?_
  refine .nil ?_
  show Ev _ _ _ _ _
  refine .seq ?_
  refine .seq ?_
  refine .region ?_
  refine .q (op_move rfl) trivial rfl ?_
  refine .q (op_len_sl Tryd.underlying49 rfl) trivial rfl ?_
  refine .q (op_move rfl) trivial rfl ?_
  refine .nil ?_
  show Ev _ _ _ _ _
  refine .block ?_
  refine Ev.loop (ι := { k : Nat // k ≤ dl a }) (fun q => ⟨[(0, .sl 500 0 (dl a) 1), (1, .sl 501 0 (dl b) 1), (5, .sl 1000 0 q.1 1), (6, .i64 (bk a b q.1 : Int)), (11, .i64 ((dl a : Nat) : Int)), (12, .i64 ((q.1 : Nat) : Int))], [(500, some ⟨.aggI (dg a), 3, false⟩), (501, some ⟨.aggI (dg b), 3, false⟩), (1000, some ⟨.aggI (dn q.1 (a - b)), 3, true⟩)], 1008⟩) (fun q => dl a - q.1) ⟨0, Nat.zero_le _⟩ (StLe.mk [(1000, 1000)] rfl rfl ⟨⟨_, rfl, by rfl, rfl⟩, ⟨_, rfl, by rfl, rfl⟩, ⟨_, rfl, by rfl, rfl⟩, ⟨_, rfl, by (simp only [AV.ren]; rw [bk_zero]; rfl), rfl⟩, ⟨_, rfl, by rfl, rfl⟩, ⟨_, rfl, by rfl, rfl⟩, trivial⟩ ⟨⟨_, _, rfl, rfl, rfl, rfl, id, rfl⟩, ⟨_, _, rfl, rfl, rfl, rfl, id, rfl⟩, ⟨_, _, rfl, rfl, rfl, rfl, id, rfl⟩, trivial⟩) ?_
  rintro ⟨k, hk⟩
  try dsimp only
  have hS := sub_step h k
  have hb1 := bk_le a b k
  have hb2 := bk_le a b (k + 1)
  have hA : k < dl a → (dg a).getD k 0 = (dk a k : Int) := fun h => dn_getk _ _ _ h
  have hB : k < dl b → (dg b).getD k 0 = (dk b k : Int) := fun h => dn_getk _ _ _ h
  have hB0 : dl b ≤ k → dk b k = 0 := dk_high
  have hl := length_dn k (a - b)
  have d1 := dk_lt a k
  have d2 := dk_lt b k
  have d3 := dk_lt (a - b) k
  have l1 := length_dg a
  have l2 := length_dg b
  refine .seq ?_
  refine .region ?_
  refine .q (op_cmpI rfl rfl rfl) trivial rfl ?_
  refine .nil ?_
  show Ev _ _ _ _ _
  refine .seq ?_
  refine .cond rfl (fun hc13 => ?_) (fun hc13 => ?_)
  · first | replace hc13 := of_decide_eq_true hc13 | replace hc13 := of_decide_eq_false hc13 | replace hc13 := eq_of_beq hc13 | replace hc13 := ne_of_beq_false hc13 | simp only [bne_iff_ne, ne_eq] at hc13 | simp only [bne_eq_false_iff_eq] at hc13
    refine .skip ?_
    show Ev _ _ _ _ _
    refine .seq ?_
    refine .block ?_
    refine .seq ?_
    refine .region ?_
    refine .q (op_move rfl) trivial rfl ?_
    refine .q (op_assign rfl) trivial rfl ?_
    refine .nil ?_
    show Ev _ _ _ _ _
    refine .seq ?_
    refine .region ?_
    refine .q (op_move rfl) trivial rfl ?_
    refine .q (op_move rfl) trivial rfl ?_
    refine .q (ap_idx0 Tryd.underlying49 inf3.sz rfl rfl rfl (by first | omega | (simp only [AV.len]; omega) | (simp only [AV.len, List.length_set]; omega) | assumption | (simp [AV.len]; done))) trivial rfl ?_
    refine .q (op_load Tryd.underlying3 rfl rfl rfl rfl (by first | omega | (simp only [AV.len]; omega) | (simp only [AV.len, List.length_set]; omega) | assumption | (simp [AV.len]; done))) trivial rfl ?_
    refine .as (.i64 (dk a k : Int)) (congrArg AV.i64 (hA (by omega))) ?_
    refine .q (op_move rfl) trivial rfl ?_
    refine .q (op_subI rfl rfl ⟨by first | omega | (simp only [AV.len]; omega) | (simp only [AV.len, List.length_set]; omega) | assumption | (simp [AV.len]; done), by first | omega | (simp only [AV.len]; omega) | (simp only [AV.len, List.length_set]; omega) | assumption | (simp [AV.len]; done)⟩) trivial rfl ?_
    refine .q (op_assign rfl) trivial rfl ?_
    refine .nil ?_
    show Ev _ _ _ _ _
    refine .seq ?_
    refine .seq ?_
    refine .region ?_
    refine .q (op_move rfl) trivial rfl ?_
    refine .q (op_move rfl) trivial rfl ?_
    refine .q (op_len_sl Tryd.underlying49 rfl) trivial rfl ?_
    refine .q (op_cmpI rfl rfl rfl) trivial rfl ?_
    refine .nil ?_
    show Ev _ _ _ _ _
    refine .cond rfl (fun hc24 => ?_) (fun hc24 => ?_)
    · first | replace hc24 := of_decide_eq_true hc24 | replace hc24 := of_decide_eq_false hc24 | replace hc24 := eq_of_beq hc24 | replace hc24 := ne_of_beq_false hc24 | simp only [bne_iff_ne, ne_eq] at hc24 | simp only [bne_eq_false_iff_eq] at hc24
      refine .region ?_
      refine .q (op_move rfl) trivial rfl ?_
      refine .q (op_move rfl) trivial rfl ?_
      refine .q (op_move rfl) trivial rfl ?_
      refine .q (ap_idx0 Tryd.underlying49 inf3.sz rfl rfl rfl (by first | omega | (simp only [AV.len]; omega) | (simp only [AV.len, List.length_set]; omega) | assumption | (simp [AV.len]; done))) trivial rfl ?_
      refine .q (op_load Tryd.underlying3 rfl rfl rfl rfl (by first | omega | (simp only [AV.len]; omega) | (simp only [AV.len, List.length_set]; omega) | assumption | (simp [AV.len]; done))) trivial rfl ?_
      refine .as (.i64 (dk b k : Int)) (congrArg AV.i64 (hB (by omega))) ?_
      refine .q (op_subI rfl rfl ⟨by first | omega | (simp only [AV.len]; omega) | (simp only [AV.len, List.length_set]; omega) | assumption | (simp [AV.len]; done), by first | omega | (simp only [AV.len]; omega) | (simp only [AV.len, List.length_set]; omega) | assumption | (simp [AV.len]; done)⟩) trivial rfl ?_
      refine .q (op_assign rfl) trivial rfl ?_
      refine .nil ?_
      show Ev _ _ _ _ _
      refine .seq ?_
      refine .region ?_
      refine .q (op_assign rfl) trivial rfl ?_
      refine .nil ?_
      show Ev _ _ _ _ _
      refine .seq ?_
      refine .seq ?_
      refine .region ?_
      refine .q (op_move rfl) trivial rfl ?_
      refine .q (op_cmpI rfl rfl rfl) trivial rfl ?_
      refine .nil ?_
      show Ev _ _ _ _ _
      refine .cond rfl (fun hc32 => ?_) (fun hc32 => ?_)
      · first | replace hc32 := of_decide_eq_true hc32 | replace hc32 := of_decide_eq_false hc32 | replace hc32 := eq_of_beq hc32 | replace hc32 := ne_of_beq_false hc32 | simp only [bne_iff_ne, ne_eq] at hc32 | simp only [bne_eq_false_iff_eq] at hc32
        refine .seq ?_
        refine .region ?_
        refine .q (op_move rfl) trivial rfl ?_
        refine .q (op_addI rfl rfl ⟨by first | omega | (simp only [AV.len]; omega) | (simp only [AV.len, List.length_set]; omega) | assumption | (simp [AV.len]; done), by first | omega | (simp only [AV.len]; omega) | (simp only [AV.len, List.length_set]; omega) | assumption | (simp [AV.len]; done)⟩) trivial rfl ?_
        refine .q (op_assign rfl) trivial rfl ?_
        refine .nil ?_
        show Ev _ _ _ _ _
        refine .region ?_
        refine .q (op_assign rfl) trivial rfl ?_
        refine .nil ?_
        show Ev _ _ _ _ _
        refine .region ?_
        refine .q (op_move rfl) trivial rfl ?_
        refine .q (op_move rfl) trivial rfl ?_
        refine .a (ap_build (us := [_]) (c := .aggI [_]) Tryd.underlying49 inf3 rfl (by decide) (by decide) ⟨rfl, rfl, rfl, trivial⟩ rfl) trivial rfl ?_
        refine .a (ap_cat Tryd.underlying49 inf3 rfl rfl rfl rfl (by first | omega | (simp only [AV.len, length_dn]; done) | (simp [AV.len]; done)) rfl rfl (by first | omega | (simp only [AV.len]; done) | (simp [AV.len]; done)) rfl (by first | omega | (simp only [AV.len, length_dn, length_bsN]; done) | (simp [AV.len]; done))) trivial rfl ?_
        refine .q (op_assign rfl) trivial rfl ?_
        refine .nil ?_
        show Ev _ _ _ _ _
        refine .region ?_
        refine .q (op_addI rfl rfl ⟨by first | omega | (simp only [AV.len]; omega) | (simp only [AV.len, List.length_set]; omega) | assumption | (simp [AV.len]; done), by first | omega | (simp only [AV.len]; omega) | (simp only [AV.len, List.length_set]; omega) | assumption | (simp [AV.len]; done)⟩) trivial rfl ?_
        refine .q (op_move rfl) trivial rfl ?_
        refine .nil ?_
        exact ⟨⟨k + 1, by omega⟩, by (try dsimp only); omega, StLe.mk [(1000, 1016)] rfl rfl ⟨⟨_, rfl, by rfl, rfl⟩, ⟨_, rfl, by rfl, rfl⟩, ⟨_, rfl, by rfl, rfl⟩, ⟨_, rfl, by (simp only [AV.ren]; congr 1; omega), rfl⟩, ⟨_, rfl, by rfl, rfl⟩, ⟨_, rfl, by rfl, rfl⟩, trivial⟩ ⟨⟨_, _, rfl, rfl, rfl, rfl, id, rfl⟩, ⟨_, _, rfl, rfl, rfl, rfl, id, rfl⟩, ⟨_, _, rfl, rfl, by (simp only [AV.ren]; rw [dn_succk]; congr 3; omega), rfl, id, rfl⟩, trivial⟩⟩
      · first | replace hc32 := of_decide_eq_true hc32 | replace hc32 := of_decide_eq_false hc32 | replace hc32 := eq_of_beq hc32 | replace hc32 := ne_of_beq_false hc32 | simp only [bne_iff_ne, ne_eq] at hc32 | simp only [bne_eq_false_iff_eq] at hc32
        refine .skip ?_
        show Ev _ _ _ _ _
        refine .region ?_
        refine .q (op_move rfl) trivial rfl ?_
        refine .q (op_move rfl) trivial rfl ?_
        refine .a (ap_build (us := [_]) (c := .aggI [_]) Tryd.underlying49 inf3 rfl (by decide) (by decide) ⟨rfl, rfl, rfl, trivial⟩ rfl) trivial rfl ?_
        refine .a (ap_cat Tryd.underlying49 inf3 rfl rfl rfl rfl (by first | omega | (simp only [AV.len, length_dn]; done) | (simp [AV.len]; done)) rfl rfl (by first | omega | (simp only [AV.len]; done) | (simp [AV.len]; done)) rfl (by first | omega | (simp only [AV.len, length_dn, length_bsN]; done) | (simp [AV.len]; done))) trivial rfl ?_
        refine .q (op_assign rfl) trivial rfl ?_
        refine .nil ?_
        show Ev _ _ _ _ _
        refine .region ?_
        refine .q (op_addI rfl rfl ⟨by first | omega | (simp only [AV.len]; omega) | (simp only [AV.len, List.length_set]; omega) | assumption | (simp [AV.len]; done), by first | omega | (simp only [AV.len]; omega) | (simp only [AV.len, List.length_set]; omega) | assumption | (simp [AV.len]; done)⟩) trivial rfl ?_
        refine .q (op_move rfl) trivial rfl ?_
        refine .nil ?_
        exact ⟨⟨k + 1, by omega⟩, by (try dsimp only); omega, StLe.mk [(1000, 1016)] rfl rfl ⟨⟨_, rfl, by rfl, rfl⟩, ⟨_, rfl, by rfl, rfl⟩, ⟨_, rfl, by rfl, rfl⟩, ⟨_, rfl, by (simp only [AV.ren]; congr 1; omega), rfl⟩, ⟨_, rfl, by rfl, rfl⟩, ⟨_, rfl, by rfl, rfl⟩, trivial⟩ ⟨⟨_, _, rfl, rfl, rfl, rfl, id, rfl⟩, ⟨_, _, rfl, rfl, rfl, rfl, id, rfl⟩, ⟨_, _, rfl, rfl, by (simp only [AV.ren]; rw [dn_succk]; congr 3; omega), rfl, id, rfl⟩, trivial⟩⟩
    · first | replace hc24 := of_decide_eq_true hc24 | replace hc24 := of_decide_eq_false hc24 | replace hc24 := eq_of_beq hc24 | replace hc24 := ne_of_beq_false hc24 | simp only [bne_iff_ne, ne_eq] at hc24 | simp only [bne_eq_false_iff_eq] at hc24
      refine .skip ?_
      show Ev _ _ _ _ _
      refine .seq ?_
      refine .region ?_
      refine .q (op_assign rfl) trivial rfl ?_
      refine .nil ?_
      show Ev _ _ _ _ _
      refine .seq ?_
      refine .seq ?_
      refine .region ?_
      refine .q (op_move rfl) trivial rfl ?_
      refine .q (op_cmpI rfl rfl rfl) trivial rfl ?_
      refine .nil ?_
      show Ev _ _ _ _ _
      refine .cond rfl (fun hc32 => ?_) (fun hc32 => ?_)
      · first | replace hc32 := of_decide_eq_true hc32 | replace hc32 := of_decide_eq_false hc32 | replace hc32 := eq_of_beq hc32 | replace hc32 := ne_of_beq_false hc32 | simp only [bne_iff_ne, ne_eq] at hc32 | simp only [bne_eq_false_iff_eq] at hc32
        refine .seq ?_
        refine .region ?_
        refine .q (op_move rfl) trivial rfl ?_
        refine .q (op_addI rfl rfl ⟨by first | omega | (simp only [AV.len]; omega) | (simp only [AV.len, List.length_set]; omega) | assumption | (simp [AV.len]; done), by first | omega | (simp only [AV.len]; omega) | (simp only [AV.len, List.length_set]; omega) | assumption | (simp [AV.len]; done)⟩) trivial rfl ?_
        refine .q (op_assign rfl) trivial rfl ?_
        refine .nil ?_
        show Ev _ _ _ _ _
        refine .region ?_
        refine .q (op_assign rfl) trivial rfl ?_
        refine .nil ?_
        show Ev _ _ _ _ _
        refine .region ?_
        refine .q (op_move rfl) trivial rfl ?_
        refine .q (op_move rfl) trivial rfl ?_
        refine .a (ap_build (us := [_]) (c := .aggI [_]) Tryd.underlying49 inf3 rfl (by decide) (by decide) ⟨rfl, rfl, rfl, trivial⟩ rfl) trivial rfl ?_
        refine .a (ap_cat Tryd.underlying49 inf3 rfl rfl rfl rfl (by first | omega | (simp only [AV.len, length_dn]; done) | (simp [AV.len]; done)) rfl rfl (by first | omega | (simp only [AV.len]; done) | (simp [AV.len]; done)) rfl (by first | omega | (simp only [AV.len, length_dn, length_bsN]; done) | (simp [AV.len]; done))) trivial rfl ?_
        refine .q (op_assign rfl) trivial rfl ?_
        refine .nil ?_
        show Ev _ _ _ _ _
        refine .region ?_
        refine .q (op_addI rfl rfl ⟨by first | omega | (simp only [AV.len]; omega) | (simp only [AV.len, List.length_set]; omega) | assumption | (simp [AV.len]; done), by first | omega | (simp only [AV.len]; omega) | (simp only [AV.len, List.length_set]; omega) | assumption | (simp [AV.len]; done)⟩) trivial rfl ?_
        refine .q (op_move rfl) trivial rfl ?_
        refine .nil ?_
        exact ⟨⟨k + 1, by omega⟩, by (try dsimp only); omega, StLe.mk [(1000, 1016)] rfl rfl ⟨⟨_, rfl, by rfl, rfl⟩, ⟨_, rfl, by rfl, rfl⟩, ⟨_, rfl, by rfl, rfl⟩, ⟨_, rfl, by (simp only [AV.ren]; congr 1; omega), rfl⟩, ⟨_, rfl, by rfl, rfl⟩, ⟨_, rfl, by rfl, rfl⟩, trivial⟩ ⟨⟨_, _, rfl, rfl, rfl, rfl, id, rfl⟩, ⟨_, _, rfl, rfl, rfl, rfl, id, rfl⟩, ⟨_, _, rfl, rfl, by (simp only [AV.ren]; rw [dn_succk]; congr 3; omega), rfl, id, rfl⟩, trivial⟩⟩
      · first | replace hc32 := of_decide_eq_true hc32 | replace hc32 := of_decide_eq_false hc32 | replace hc32 := eq_of_beq hc32 | replace hc32 := ne_of_beq_false hc32 | simp only [bne_iff_ne, ne_eq] at hc32 | simp only [bne_eq_false_iff_eq] at hc32
        refine .skip ?_
        show Ev _ _ _ _ _
        refine .region ?_
        refine .q (op_move rfl) trivial rfl ?_
        refine .q (op_move rfl) trivial rfl ?_
        refine .a (ap_build (us := [_]) (c := .aggI [_]) Tryd.underlying49 inf3 rfl (by decide) (by decide) ⟨rfl, rfl, rfl, trivial⟩ rfl) trivial rfl ?_
        refine .a (ap_cat Tryd.underlying49 inf3 rfl rfl rfl rfl (by first | omega | (simp only [AV.len, length_dn]; done) | (simp [AV.len]; done)) rfl rfl (by first | omega | (simp only [AV.len]; done) | (simp [AV.len]; done)) rfl (by first | omega | (simp only [AV.len, length_dn, length_bsN]; done) | (simp [AV.len]; done))) trivial rfl ?_
        refine .q (op_assign rfl) trivial rfl ?_
        refine .nil ?_
        show Ev _ _ _ _ _
        refine .region ?_
        refine .q (op_addI rfl rfl ⟨by first | omega | (simp only [AV.len]; omega) | (simp only [AV.len, List.length_set]; omega) | assumption | (simp [AV.len]; done), by first | omega | (simp only [AV.len]; omega) | (simp only [AV.len, List.length_set]; omega) | assumption | (simp [AV.len]; done)⟩) trivial rfl ?_
        refine .q (op_move rfl) trivial rfl ?_
        refine .nil ?_
        exact ⟨⟨k + 1, by omega⟩, by (try dsimp only); omega, StLe.mk [(1000, 1016)] rfl rfl ⟨⟨_, rfl, by rfl, rfl⟩, ⟨_, rfl, by rfl, rfl⟩, ⟨_, rfl, by rfl, rfl⟩, ⟨_, rfl, by (simp only [AV.ren]; congr 1; omega), rfl⟩, ⟨_, rfl, by rfl, rfl⟩, ⟨_, rfl, by rfl, rfl⟩, trivial⟩ ⟨⟨_, _, rfl, rfl, rfl, rfl, id, rfl⟩, ⟨_, _, rfl, rfl, rfl, rfl, id, rfl⟩, ⟨_, _, rfl, rfl, by (simp only [AV.ren]; rw [dn_succk]; congr 3; omega), rfl, id, rfl⟩, trivial⟩⟩
  · first | replace hc13 := of_decide_eq_true hc13 | replace hc13 := of_decide_eq_false hc13 | replace hc13 := eq_of_beq hc13 | replace hc13 := ne_of_beq_false hc13 | simp only [bne_iff_ne, ne_eq] at hc13 | simp only [bne_eq_false_iff_eq] at hc13
    refine .exit ?_
    show Ev _ _ _ _ _
    refine .seq ?_
    refine .region ?_
    refine .q (op_move rfl) trivial rfl ?_
    refine .q (op_call (U := []) [(500, 1000)] [] (trim_dn k (a - b) (by rw [show k = dl a by omega]; exact sub_lt) (by omega)) Tryd.func87 (by kernel_rfl) rfl rfl rfl (⟨⟨_, rfl, rfl, rfl⟩, trivial⟩) (⟨⟨_, _, rfl, rfl, rfl, rfl, (fun h => by cases h), rfl⟩, trivial⟩) (trivial) (⟨(fun h => by cases h), trivial⟩) rfl) trivial rfl ?_
    refine .q (op_assign rfl) trivial rfl ?_
    refine .nil ?_
    show Ev _ _ _ _ _
    refine Ev.pre (H2 := [(1000, some ⟨.aggI (dg (a - b)), 3, true⟩)]) ⟨⟨.aggI (dn k (a - b)), dl (a - b), rfl, pre_dn k (a - b) (by rw [show k = dl a by omega]; exact dl_le sub_lt)⟩, trivial⟩ ?_
    refine .ret ?_
    show RetOk _ _ _ _ _ _ _
    exact ret1v rfl (.inl rfl) rfl rfl ⟨rfl, trivial⟩
end Go.Proofs.YtgblhjmnenmlkaaDoor
namespace Go.Proofs.YtgblhjmnenmlkaaDoor
open Go.RowKit
theorem shr_cast (x m : Nat) : ((x : Nat) : Int) / 2 ^ m % 65536 = ((x / 2 ^ m % 65536 : Nat) : Int) := by simp
set_option maxHeartbeats 1000000 in
set_option maxRecDepth 100000 in
theorem half_ev (a n : Nat) (ha : dl a ≤ 1000) (hn : n ≤ 1000000) : Meets Tryd.prog 58 [.sl 500 0 (dl a) 1, .i64 (n : Int)] [(500, some ⟨.aggI (dg a), 3, false⟩)] (.sl 1000 0 (dl (a / 2 ^ n)) 1) [(1000, some ⟨.aggI (dg (a / 2 ^ n)), 3, true⟩)] := by
  refine meets_of_ev (nt := 52) Tryd.func58 rfl rfl (Nat.le_of_ble_eq_true rfl) ?_
  refine .seq ?_
  refine .region ?_
  refine .q (op_assign rfl) trivial rfl ?_
  refine .nil ?_
  show Ev _ _ _ _ _
  refine .seq ?_
  refine .seq ?_
  refine .region ?_
  refine .q (op_move rfl) trivial rfl ?_
  refine .q (op_quoI rfl rfl ⟨by first | omega | (simp only [AV.len]; omega) | (simp only [AV.len, List.length_set]; omega) | assumption | (simp [AV.len]; done), ⟨by first | omega | (simp only [AV.len]; omega) | (simp only [AV.len, List.length_set]; omega) | assumption | (simp [AV.len]; done), by first | omega | (simp only [AV.len]; omega) | (simp only [AV.len, List.length_set]; omega) | assumption | (simp [AV.len]; done)⟩, by first | omega | (simp only [AV.len]; omega) | (simp only [AV.len, List.length_set]; omega) | assumption | (simp [AV.len]; done)⟩) trivial rfl ?_
  refine .q (op_move rfl) trivial rfl ?_
  refine .q (op_len_sl Tryd.underlying49 rfl) trivial rfl ?_
  refine .q (op_cmpI rfl rfl rfl) trivial rfl ?_
  refine .nil ?_
  show Ev _ _ _ _ _
  refine .cond rfl (fun hc12 => ?_) (fun hc12 => ?_)
  · first | replace hc12 := of_decide_eq_true hc12 | replace hc12 := of_decide_eq_false hc12 | replace hc12 := eq_of_beq hc12 | replace hc12 := ne_of_beq_false hc12 | simp only [bne_iff_ne, ne_eq] at hc12 | simp only [bne_eq_false_iff_eq] at hc12
    refine .seq ?_
    refine .region ?_
    refine .a (ap_build0 (z := 1) (c := .aggI []) Tryd.underlying49 inf3 rfl) trivial rfl ?_
    refine .q (op_assign rfl) trivial rfl ?_
    refine .nil ?_
    show Ev _ _ _ _ _
    first
      | refine Ev.pre (H2 := [(1000, some ⟨.aggI (dg (a / 2 ^ n)), 3, true⟩)]) ⟨⟨.aggI (dn k (a / 2 ^ n)), dl (a / 2 ^ n), rfl, pre_dn k (a / 2 ^ n) (dl_le (by rw [show k = dl a - n / 16 by omega]; exact (half_lt a n).resolve_right (by omega)))⟩, trivial⟩ ?_
      | skip
    refine .ret ?_
    show RetOk _ _ _ _ _ _ _
    first
      | exact ret1v rfl (.inl rfl) rfl rfl ⟨rfl, trivial⟩
      | exact ret1v rfl (.inl rfl) rfl (by rw [half_zero (show dl a ≤ n / 16 by omega), dl_zero]) ⟨(by rw [half_zero (show dl a ≤ n / 16 by omega)]; unfold dg; rw [dl_zero]; rfl), trivial⟩
  · first | replace hc12 := of_decide_eq_true hc12 | replace hc12 := of_decide_eq_false hc12 | replace hc12 := eq_of_beq hc12 | replace hc12 := ne_of_beq_false hc12 | simp only [bne_iff_ne, ne_eq] at hc12 | simp only [bne_eq_false_iff_eq] at hc12
    refine .skip ?_
    show Ev _ _ _ _ _
    refine .seq ?_
    refine .region ?_
    refine .q (op_move rfl) trivial rfl ?_
    refine .q (op_move rfl) trivial rfl ?_
    refine .q (op_quoI rfl rfl ⟨by first | omega | (simp only [AV.len]; omega) | (simp only [AV.len, List.length_set]; omega) | assumption | (simp [AV.len]; done), ⟨by first | omega | (simp only [AV.len]; omega) | (simp only [AV.len, List.length_set]; omega) | assumption | (simp [AV.len]; done), by first | omega | (simp only [AV.len]; omega) | (simp only [AV.len, List.length_set]; omega) | assumption | (simp [AV.len]; done)⟩, by first | omega | (simp only [AV.len]; omega) | (simp only [AV.len, List.length_set]; omega) | assumption | (simp [AV.len]; done)⟩) trivial rfl ?_
    refine .q (op_slice_sl Tryd.underlying49 inf3.sz rfl (bnd_some rfl (l := n / 16) (by omega)) rfl (by omega) (by omega)) trivial rfl ?_
    refine .as (.sl 500 (n / 16) (dl a - n / 16) 1) (by congr 1; omega) ?_
    refine .q (op_assign rfl) trivial rfl ?_
    refine .nil ?_
    show Ev _ _ _ _ _
    refine .seq ?_
    refine .region ?_
    refine .a (ap_build0 (z := 1) (c := .aggI []) Tryd.underlying49 inf3 rfl) trivial rfl ?_
    refine .q (op_assign rfl) trivial rfl ?_
    refine .nil ?_
    show Ev _ _ _ _ _
    refine .seq ?_
    refine .seq ?_
    refine .region ?_
    refine .q (op_move rfl) trivial rfl ?_
    refine .q (op_len_sl Tryd.underlying49 rfl) trivial rfl ?_
    refine .q (op_move rfl) trivial rfl ?_
    refine .nil ?_
    show Ev _ _ _ _ _
    refine .block ?_
    refine Ev.loop (ι := { k : Nat // k ≤ dl a - n / 16 ∧ n / 16 < dl a }) (fun q => ⟨[(0, .sl 500 (n / 16) (dl a - n / 16) 1), (1, .i64 (n : Int)), (5, .sl 1000 0 q.1 1), (20, .i64 ((dl a - n / 16 : Nat) : Int)), (21, .i64 ((q.1 : Nat) : Int))], [(500, some ⟨.aggI (dg a), 3, false⟩), (1000, some ⟨.aggI (dn q.1 (a / 2 ^ n)), 3, true⟩)], 1008⟩) (fun q => dl a - n / 16 - q.1) ⟨0, Nat.zero_le _, by omega⟩ (StLe.mk [(1000, 1000)] rfl rfl ⟨⟨_, rfl, by first | rfl | (simp only [AV.ren]; congr 1; omega), rfl⟩, ⟨_, rfl, by first | rfl | (simp only [AV.ren]; congr 1; omega), rfl⟩, ⟨_, rfl, by first | rfl | (simp only [AV.ren]; congr 1; omega), rfl⟩, ⟨_, rfl, by first | rfl | (simp only [AV.ren]; congr 1; omega), rfl⟩, ⟨_, rfl, by first | rfl | (simp only [AV.ren]; congr 1; omega), rfl⟩, trivial⟩ ⟨⟨_, _, rfl, rfl, rfl, rfl, id, rfl⟩, ⟨_, _, rfl, rfl, rfl, rfl, id, rfl⟩, trivial⟩) ?_
    rintro ⟨k, hk, hlt⟩
    try dsimp only
    have hS := half_step a n k
    have hA : k < dl a - n / 16 → (dg a).getD (n / 16 + k) 0 = (dk a (n / 16 + k) : Int) := fun h => dn_getk _ _ _ (by omega)
    have hB : k + 1 < dl a - n / 16 → (dg a).getD (n / 16 + (k + 1)) 0 = (dk a (n / 16 + k + 1) : Int) := fun h => dn_getk _ _ _ (by omega)
    have hz : dl a ≤ n / 16 + k + 1 → dk a (n / 16 + k + 1) = 0 := dk_high
    have hl := length_dn k (a / 2 ^ n)
    have d1 := dk_lt a (n / 16 + k)
    have d2 := dk_lt a (n / 16 + k + 1)
    have l1 := length_dg a
    refine .seq ?_
    refine .region ?_
    refine .q (op_cmpI rfl rfl rfl) trivial rfl ?_
    refine .nil ?_
    show Ev _ _ _ _ _
    refine .seq ?_
    refine .cond rfl (fun hc22 => ?_) (fun hc22 => ?_)
    · first | replace hc22 := of_decide_eq_true hc22 | replace hc22 := of_decide_eq_false hc22 | replace hc22 := eq_of_beq hc22 | replace hc22 := ne_of_beq_false hc22 | simp only [bne_iff_ne, ne_eq] at hc22 | simp only [bne_eq_false_iff_eq] at hc22
      refine .skip ?_
      show Ev _ _ _ _ _
      refine .seq ?_
      refine .block ?_
      refine .seq ?_
      refine .region ?_
      refine .q (op_move rfl) trivial rfl ?_
      refine .q (op_assign rfl) trivial rfl ?_
      refine .nil ?_
      show Ev _ _ _ _ _
      refine .seq ?_
      refine .region ?_
      refine .q (op_move rfl) trivial rfl ?_
      refine .q (op_move rfl) trivial rfl ?_
      refine .q (ap_idx Tryd.underlying49 inf3.sz rfl rfl rfl (by first | omega | (simp only [AV.len]; omega) | (simp only [AV.len, List.length_set]; omega) | assumption | (simp [AV.len]; done))) trivial rfl ?_
      refine .q (op_load Tryd.underlying3 rfl rfl rfl rfl (by first | omega | (simp only [AV.len]; omega) | (simp only [AV.len, List.length_set]; omega) | assumption | (simp [AV.len]; done))) trivial rfl ?_
      refine .as (.i64 (dk a (n / 16 + k) : Int)) (congrArg AV.i64 (hA (by omega))) ?_
      refine .q (op_assign rfl) trivial rfl ?_
      refine .nil ?_
      show Ev _ _ _ _ _
      refine .seq ?_
      refine .seq ?_
      refine .region ?_
      refine .q (op_move rfl) trivial rfl ?_
      refine .q (op_addI rfl rfl ⟨by first | omega | (simp only [AV.len]; omega) | (simp only [AV.len, List.length_set]; omega) | assumption | (simp [AV.len]; done), by first | omega | (simp only [AV.len]; omega) | (simp only [AV.len, List.length_set]; omega) | assumption | (simp [AV.len]; done)⟩) trivial rfl ?_
      refine .q (op_move rfl) trivial rfl ?_
      refine .q (op_len_sl Tryd.underlying49 rfl) trivial rfl ?_
      refine .q (op_cmpI rfl rfl rfl) trivial rfl ?_
      refine .nil ?_
      show Ev _ _ _ _ _
      refine .cond rfl (fun hc32 => ?_) (fun hc32 => ?_)
      · first | replace hc32 := of_decide_eq_true hc32 | replace hc32 := of_decide_eq_false hc32 | replace hc32 := eq_of_beq hc32 | replace hc32 := ne_of_beq_false hc32 | simp only [bne_iff_ne, ne_eq] at hc32 | simp only [bne_eq_false_iff_eq] at hc32
        refine .region ?_
        refine .q (op_move rfl) trivial rfl ?_
        refine .q (op_move rfl) trivial rfl ?_
        refine .q (op_move rfl) trivial rfl ?_
        refine .q (op_addI rfl rfl ⟨by first | omega | (simp only [AV.len]; omega) | (simp only [AV.len, List.length_set]; omega) | assumption | (simp [AV.len]; done), by first | omega | (simp only [AV.len]; omega) | (simp only [AV.len, List.length_set]; omega) | assumption | (simp [AV.len]; done)⟩) trivial rfl ?_
        refine .q (ap_idx Tryd.underlying49 inf3.sz rfl rfl (i := k + 1) (by omega) (by first | omega | (simp only [AV.len]; omega) | (simp only [AV.len, List.length_set]; omega) | assumption | (simp [AV.len]; done))) trivial rfl ?_
        refine .q (op_load Tryd.underlying3 rfl rfl rfl rfl (by first | omega | (simp only [AV.len]; omega) | (simp only [AV.len, List.length_set]; omega) | assumption | (simp [AV.len]; done))) trivial rfl ?_
        refine .as (.i64 (dk a (n / 16 + k + 1) : Int)) (congrArg AV.i64 (hB (by omega))) ?_
        refine .q (op_mulI rfl rfl ⟨by first | omega | (simp only [AV.len]; omega) | (simp only [AV.len, List.length_set]; omega) | assumption | (simp [AV.len]; done), by first | omega | (simp only [AV.len]; omega) | (simp only [AV.len, List.length_set]; omega) | assumption | (simp [AV.len]; done)⟩) trivial rfl ?_
        refine .q (op_addI rfl rfl ⟨by first | omega | (simp only [AV.len]; omega) | (simp only [AV.len, List.length_set]; omega) | assumption | (simp [AV.len]; done), by first | omega | (simp only [AV.len]; omega) | (simp only [AV.len, List.length_set]; omega) | assumption | (simp [AV.len]; done)⟩) trivial rfl ?_
        refine .as (.i64 ((dk a (n / 16 + k) + 65536 * dk a (n / 16 + k + 1) : Nat) : Int)) (by congr 1; omega) ?_
        refine .q (op_assign rfl) trivial rfl ?_
        refine .nil ?_
        show Ev _ _ _ _ _
        refine .region ?_
        refine .q (op_move rfl) trivial rfl ?_
        refine .q (op_move rfl) trivial rfl ?_
        refine .q (op_move rfl) trivial rfl ?_
        refine .q (op_remI rfl rfl ⟨by first | omega | (simp only [AV.len]; omega) | (simp only [AV.len, List.length_set]; omega) | assumption | (simp [AV.len]; done), by first | omega | (simp only [AV.len]; omega) | (simp only [AV.len, List.length_set]; omega) | assumption | (simp [AV.len]; done)⟩) trivial rfl ?_
        refine .q (op_shrI (n := n % 16) rfl rfl (by simp only [shiftBy]; rw [show (n : Int) % 16 = ((n % 16 : Nat) : Int) by omega]) (by omega)) trivial rfl ?_
        refine .q (op_remI rfl rfl ⟨Int.ediv_nonneg (by omega) (Int.le_of_lt (Int.pow_pos (by decide))), by omega⟩) trivial rfl ?_
        first
          | refine .as (.i64 (((dk a (n / 16 + k) + 65536 * dk a (n / 16 + k + 1)) / 2 ^ (n % 16) % 65536 : Nat) : Int)) (congrArg AV.i64 (shr_cast _ _)) ?_
          | refine .as (.i64 ((dk a (n / 16 + k) / 2 ^ (n % 16) % 65536 : Nat) : Int)) (congrArg AV.i64 (shr_cast _ _)) ?_
        refine .a (ap_build (us := [_]) (c := .aggI [_]) Tryd.underlying49 inf3 rfl (by decide) (by decide) ⟨rfl, rfl, rfl, trivial⟩ rfl) trivial rfl ?_
        refine .a (ap_cat Tryd.underlying49 inf3 rfl rfl rfl rfl (by first | omega | (simp only [AV.len, length_dn]; done) | (simp [AV.len]; done)) rfl rfl (by first | omega | (simp only [AV.len]; done) | (simp [AV.len]; done)) rfl (by first | omega | (simp only [AV.len, length_dn, length_bsN]; done) | (simp [AV.len]; done))) trivial rfl ?_
        refine .q (op_assign rfl) trivial rfl ?_
        refine .nil ?_
        show Ev _ _ _ _ _
        refine .region ?_
        refine .q (op_addI rfl rfl ⟨by first | omega | (simp only [AV.len]; omega) | (simp only [AV.len, List.length_set]; omega) | assumption | (simp [AV.len]; done), by first | omega | (simp only [AV.len]; omega) | (simp only [AV.len, List.length_set]; omega) | assumption | (simp [AV.len]; done)⟩) trivial rfl ?_
        refine .q (op_move rfl) trivial rfl ?_
        refine .nil ?_
        exact ⟨⟨k + 1, by omega, hlt⟩, by (try dsimp only); omega, StLe.mk [(1000, 1016)] rfl rfl ⟨⟨_, rfl, by rfl, rfl⟩, ⟨_, rfl, by rfl, rfl⟩, ⟨_, rfl, by rfl, rfl⟩, ⟨_, rfl, by rfl, rfl⟩, ⟨_, rfl, by rfl, rfl⟩, trivial⟩ ⟨⟨_, _, rfl, rfl, rfl, rfl, id, rfl⟩, ⟨_, _, rfl, rfl, by first | (simp only [AV.ren]; rw [dn_succk, ← hS]; done) | (simp only [AV.ren]; rw [dn_succk, ← hS, hz (by omega), Nat.mul_zero, Nat.add_zero]), rfl, id, rfl⟩, trivial⟩⟩
      · first | replace hc32 := of_decide_eq_true hc32 | replace hc32 := of_decide_eq_false hc32 | replace hc32 := eq_of_beq hc32 | replace hc32 := ne_of_beq_false hc32 | simp only [bne_iff_ne, ne_eq] at hc32 | simp only [bne_eq_false_iff_eq] at hc32
        refine .skip ?_
        show Ev _ _ _ _ _
        refine .region ?_
        refine .q (op_move rfl) trivial rfl ?_
        refine .q (op_move rfl) trivial rfl ?_
        refine .q (op_move rfl) trivial rfl ?_
        refine .q (op_remI rfl rfl ⟨by first | omega | (simp only [AV.len]; omega) | (simp only [AV.len, List.length_set]; omega) | assumption | (simp [AV.len]; done), by first | omega | (simp only [AV.len]; omega) | (simp only [AV.len, List.length_set]; omega) | assumption | (simp [AV.len]; done)⟩) trivial rfl ?_
        refine .q (op_shrI (n := n % 16) rfl rfl (by simp only [shiftBy]; rw [show (n : Int) % 16 = ((n % 16 : Nat) : Int) by omega]) (by omega)) trivial rfl ?_
        refine .q (op_remI rfl rfl ⟨Int.ediv_nonneg (by omega) (Int.le_of_lt (Int.pow_pos (by decide))), by omega⟩) trivial rfl ?_
        first
          | refine .as (.i64 (((dk a (n / 16 + k) + 65536 * dk a (n / 16 + k + 1)) / 2 ^ (n % 16) % 65536 : Nat) : Int)) (congrArg AV.i64 (shr_cast _ _)) ?_
          | refine .as (.i64 ((dk a (n / 16 + k) / 2 ^ (n % 16) % 65536 : Nat) : Int)) (congrArg AV.i64 (shr_cast _ _)) ?_
        refine .a (ap_build (us := [_]) (c := .aggI [_]) Tryd.underlying49 inf3 rfl (by decide) (by decide) ⟨rfl, rfl, rfl, trivial⟩ rfl) trivial rfl ?_
        refine .a (ap_cat Tryd.underlying49 inf3 rfl rfl rfl rfl (by first | omega | (simp only [AV.len, length_dn]; done) | (simp [AV.len]; done)) rfl rfl (by first | omega | (simp only [AV.len]; done) | (simp [AV.len]; done)) rfl (by first | omega | (simp only [AV.len, length_dn, length_bsN]; done) | (simp [AV.len]; done))) trivial rfl ?_
        refine .q (op_assign rfl) trivial rfl ?_
        refine .nil ?_
        show Ev _ _ _ _ _
        refine .region ?_
        refine .q (op_addI rfl rfl ⟨by first | omega | (simp only [AV.len]; omega) | (simp only [AV.len, List.length_set]; omega) | assumption | (simp [AV.len]; done), by first | omega | (simp only [AV.len]; omega) | (simp only [AV.len, List.length_set]; omega) | assumption | (simp [AV.len]; done)⟩) trivial rfl ?_
        refine .q (op_move rfl) trivial rfl ?_
        refine .nil ?_
        exact ⟨⟨k + 1, by omega, hlt⟩, by (try dsimp only); omega, StLe.mk [(1000, 1016)] rfl rfl ⟨⟨_, rfl, by rfl, rfl⟩, ⟨_, rfl, by rfl, rfl⟩, ⟨_, rfl, by rfl, rfl⟩, ⟨_, rfl, by rfl, rfl⟩, ⟨_, rfl, by rfl, rfl⟩, trivial⟩ ⟨⟨_, _, rfl, rfl, rfl, rfl, id, rfl⟩, ⟨_, _, rfl, rfl, by first | (simp only [AV.ren]; rw [dn_succk, ← hS]; done) | (simp only [AV.ren]; rw [dn_succk, ← hS, hz (by omega), Nat.mul_zero, Nat.add_zero]), rfl, id, rfl⟩, trivial⟩⟩
    · first | replace hc22 := of_decide_eq_true hc22 | replace hc22 := of_decide_eq_false hc22 | replace hc22 := eq_of_beq hc22 | replace hc22 := ne_of_beq_false hc22 | simp only [bne_iff_ne, ne_eq] at hc22 | simp only [bne_eq_false_iff_eq] at hc22
      refine .exit ?_
      show Ev _ _ _ _ _
      refine .seq ?_
      refine .region ?_
      refine .q (op_move rfl) trivial rfl ?_
      refine .q (op_call (U := []) [(500, 1000)] [] (trim_dn k (a / 2 ^ n) (by rw [show k = dl a - n / 16 by omega]; exact (half_lt a n).resolve_right (by omega)) (by omega)) Tryd.func87 (by kernel_rfl) rfl rfl rfl (⟨⟨_, rfl, rfl, rfl⟩, trivial⟩) (⟨⟨_, _, rfl, rfl, rfl, rfl, (fun h => by cases h), rfl⟩, trivial⟩) (trivial) (⟨(fun h => by cases h), trivial⟩) rfl) trivial rfl ?_
      refine .q (op_assign rfl) trivial rfl ?_
      refine .nil ?_
      show Ev _ _ _ _ _
      first
        | refine Ev.pre (H2 := [(1000, some ⟨.aggI (dg (a / 2 ^ n)), 3, true⟩)]) ⟨⟨.aggI (dn k (a / 2 ^ n)), dl (a / 2 ^ n), rfl, pre_dn k (a / 2 ^ n) (dl_le (by rw [show k = dl a - n / 16 by omega]; exact (half_lt a n).resolve_right (by omega)))⟩, trivial⟩ ?_
        | skip
      refine .ret ?_
      show RetOk _ _ _ _ _ _ _
      first
        | exact ret1v rfl (.inl rfl) rfl rfl ⟨rfl, trivial⟩
        | exact ret1v rfl (.inl rfl) rfl (by rw [half_zero (show dl a ≤ n / 16 by omega), dl_zero]) ⟨(by rw [half_zero (show dl a ≤ n / 16 by omega)]; unfold dg; rw [dl_zero]; rfl), trivial⟩
end Go.Proofs.YtgblhjmnenmlkaaDoor
namespace Go.Proofs.YtgblhjmnenmlkaaDoor
/-- The number of the first bytes. -/
def leN (s : List UInt8) : Nat → Nat
  | 0 => 0
  | i + 1 => leN s i + 256 ^ i * (s.getD i 0).toNat
theorem leN_lt (s : List UInt8) (i : Nat) : leN s i < 256 ^ i := by
  induction i with
  | zero => simp [leN]
  | succ i ih =>
    have h := (s.getD i 0).toNat_lt
    simp only [leN, Nat.pow_succ]
    have h2 : 256 ^ i * (s.getD i 0).toNat ≤ 256 ^ i * 255 := Nat.mul_le_mul_left _ (by omega)
    omega
theorem pow_two (m : Nat) : (256 : Nat) ^ (2 * m) = 65536 ^ m := by rw [Nat.pow_mul]
theorem dn_low (m x d : Nat) : dn m (x + 65536 ^ m * d) = dn m x := by
  induction m generalizing x d with
  | zero => rfl
  | succ m ih =>
    simp only [dn]
    have e : x + 65536 ^ (m + 1) * d = x + 65536 * (65536 ^ m * d) := by rw [Nat.pow_succ, Nat.mul_comm (65536 ^ m), Nat.mul_assoc]
    rw [e, Nat.add_mul_mod_self_left, Nat.add_mul_div_left _ _ (by decide), ih]
theorem of_even (s : List UInt8) (m : Nat) : dn m (leN s (2 * m)) ++ [((s.getD (2 * m) 0).toNat : Int)] = dn (m + 1) (leN s (2 * m + 1)) := by
  have h1 := leN_lt s (2 * m)
  have h2 := (s.getD (2 * m) 0).toNat_lt
  rw [pow_two] at h1
  rw [dn_succ]
  simp only [leN, pow_two]
  rw [dn_low, Nat.add_mul_div_left _ _ (Nat.pow_pos (by decide)), Nat.div_eq_of_lt h1, Nat.zero_add, Nat.mod_eq_of_lt (by omega)]
theorem of_odd (s : List UInt8) (m : Nat) : (dn (m + 1) (leN s (2 * m + 1))).set m (((dn (m + 1) (leN s (2 * m + 1))).getD m 0) + 256 * ((s.getD (2 * m + 1) 0).toNat : Int)) = dn (m + 1) (leN s (2 * m + 2)) := by
  have h1 := leN_lt s (2 * m + 1)
  have h2 := (s.getD (2 * m + 1) 0).toNat_lt
  rw [Nat.pow_succ, pow_two] at h1
  rw [dn_get _ _ _ (by omega)]
  have e : leN s (2 * m + 2) = leN s (2 * m + 1) + 65536 ^ m * (256 * (s.getD (2 * m + 1) 0).toNat) := by
    show leN s (2 * m + 1) + 256 ^ (2 * m + 1) * (s.getD (2 * m + 1) 0).toNat = _
    rw [Nat.pow_succ, pow_two, Nat.mul_assoc]
  rw [e, dn_succ m (leN s (2 * m + 1)), dn_succ m (leN s (2 * m + 1) + _), dn_low, List.set_append_right _ _ (by rw [length_dn]; omega), length_dn, Nat.sub_self]
  rw [Nat.add_mul_div_left _ _ (Nat.pow_pos (by decide))]
  have h3 : leN s (2 * m + 1) / 65536 ^ m < 256 := by rw [Nat.div_lt_iff_lt_mul (Nat.pow_pos (by decide))]; omega
  generalize leN s (2 * m + 1) / 65536 ^ m = y at *
  simp only [List.set_cons_zero]
  congr 2
  rw [Nat.mod_eq_of_lt (by omega), Nat.mod_eq_of_lt (by omega)]
  omega
theorem leN_lt2 (s : List UInt8) (i : Nat) : leN s i < 65536 ^ ((i + 1) / 2) := by
  have h := leN_lt s i
  have h2 : 256 ^ i ≤ 65536 ^ ((i + 1) / 2) := by rw [← pow_two]; exact Nat.pow_le_pow_right (by decide) (by omega)
  omega
/-- Less, equal, greater. -/
def cmpN (a b : Nat) : Int := if a < b then -1 else if b < a then 1 else 0
theorem cmp_lt {a b k : Nat} (h : a / 65536 ^ (k + 1) = b / 65536 ^ (k + 1)) (hd : dk a k < dk b k) : a < b := by
  rw [Nat.pow_succ, ← Nat.div_div_eq_div_mul, ← Nat.div_div_eq_div_mul] at h
  unfold dk at hd
  have : a / 65536 ^ k < b / 65536 ^ k := by
    generalize a / 65536 ^ k = x at *
    generalize b / 65536 ^ k = y at *
    omega
  rcases Nat.lt_or_ge a b with h1 | h1
  · exact h1
  · have := Nat.div_le_div_right (c := 65536 ^ k) h1; omega
theorem cmp_eq {a b k : Nat} (h : a / 65536 ^ (k + 1) = b / 65536 ^ (k + 1)) (hd : dk a k = dk b k) : a / 65536 ^ k = b / 65536 ^ k := by
  rw [Nat.pow_succ, ← Nat.div_div_eq_div_mul, ← Nat.div_div_eq_div_mul] at h
  unfold dk at hd
  generalize a / 65536 ^ k = x at *
  generalize b / 65536 ^ k = y at *
  omega
theorem dl_mono {a b : Nat} (h : a ≤ b) : dl a ≤ dl b := dl_le (Nat.lt_of_le_of_lt h (dl_lt b))
theorem cmp_dl {a b : Nat} (h : dl a < dl b) : a < b := by
  rcases Nat.lt_or_ge a b with h1 | h1
  · exact h1
  · have := dl_mono h1; omega
theorem cmpN_lt {a b : Nat} (h : a < b) : cmpN a b = -1 := by unfold cmpN; rw [if_pos h]
theorem cmpN_gt {a b : Nat} (h : b < a) : cmpN a b = 1 := by unfold cmpN; rw [if_neg (by omega), if_pos h]
theorem cmpN_eq {a b : Nat} (h : a = b) : cmpN a b = 0 := by unfold cmpN; rw [if_neg (by omega), if_neg (by omega)]
theorem div_top {a : Nat} : a / 65536 ^ dl a = 0 := Nat.div_eq_of_lt (dl_lt a)
end Go.Proofs.YtgblhjmnenmlkaaDoor
namespace Go.Proofs.YtgblhjmnenmlkaaDoor
/-- Limb i. -/
def lb (x : List UInt64) (i : Nat) : Nat := (x.getD i 0).toNat
/-- The number of five limbs. -/
def lv (x : List UInt64) : Nat := lb x 0 + 67108864 * lb x 1 + 4503599627370496 * lb x 2 + 302231454903657293676544 * lb x 3 + 20282409603651670423947251286016 * lb x 4
theorem and26 (a : UInt64) : (a &&& mask26).toNat = a.toNat % 67108864 := by
  rw [UInt64.toNat_and, show mask26.toNat = 2 ^ 26 - 1 from rfl, Nat.and_two_pow_sub_one_eq_mod]
theorem shr26 (a : UInt64) : (a >>> UInt64.ofNat 26).toNat = a.toNat / 67108864 := by
  rw [UInt64.toNat_shiftRight, show (UInt64.ofNat 26).toNat % 64 = 26 from rfl, Nat.shiftRight_eq_div_pow]
theorem lb_set (x : List UInt64) (i j : Nat) (v : UInt64) (h : i < x.length) : lb (x.set i v) j = if i = j then v.toNat else lb x j := by
  unfold lb
  rw [List.getD_eq_getElem?_getD, List.getElem?_set]
  by_cases e : i = j
  · rw [if_pos e, if_pos e, if_pos h]; rfl
  · rw [if_neg e, if_neg e, List.getD_eq_getElem?_getD]
/-- The carry into limb i. -/
def cN (x : List UInt64) : Nat → Nat
  | 0 => 0
  | n + 1 => (lb x n + cN x n) / 67108864
theorem cN_lt (x : List UInt64) (n : Nat) : cN x n < 274877915137 := by
  induction n with
  | zero => exact Nat.zero_lt_succ _
  | succ n ih =>
    have := (x.getD n 0).toNat_lt
    simp only [cN]
    unfold lb
    omega
theorem add_noov (a b : UInt64) (h : a.toNat + b.toNat < 18446744073709551616) : (a + b).toNat = a.toNat + b.toNat := by
  rw [UInt64.toNat_add]; exact Nat.mod_eq_of_lt h
theorem crN_spec (x : List UInt64) (hx : ∀ i, lb x i < 9223372036854775808) (n : Nat) (hn : n ≤ x.length) :
    (crN x n).2.toNat = cN x n ∧ ∀ i, lb (crN x n).1 i = if i < n then (lb x i + cN x i) % 67108864 else lb x i := by
  induction n with
  | zero => exact ⟨rfl, fun i => by simp [crN]⟩
  | succ n ih =>
    obtain ⟨h1, h2⟩ := ih (by omega)
    have h3 := h2 n
    rw [if_neg (by omega)] at h3
    have hc := cN_lt x n
    have hb := hx n
    have hs : ((crN x n).1.getD n 0 + (crN x n).2).toNat = lb x n + cN x n := by
      rw [add_noov _ _ (by rw [h1]; unfold lb at *; omega), h1]; unfold lb at *; omega
    refine ⟨?_, fun i => ?_⟩
    · simp only [crN]
      rw [shr26, hs]; rfl
    · simp only [crN]
      rw [lb_set _ _ _ _ (by rw [length_crN]; omega), and26, hs, h2 i]
      by_cases e : n = i
      · subst e; rw [if_pos rfl, if_pos (by omega)]
      · rw [if_neg e]
        by_cases e2 : i < n
        · rw [if_pos e2, if_pos (by omega)]
        · rw [if_neg e2, if_neg (by omega)]
/-- Carrying keeps the number. -/
theorem crN_lv (x : List UInt64) (hx : ∀ i, lb x i < 9223372036854775808) (hl : x.length = 5) : lv x = lv (crN x 5).1 + 1361129467683753853853498429727072845824 * cN x 5 := by
  have h := (crN_spec x hx 5 (by omega)).2
  unfold lv
  rw [h 0, h 1, h 2, h 3, h 4]
  simp only [cN, show (0 : Nat) < 5 from by decide, show (1 : Nat) < 5 from by decide, show (2 : Nat) < 5 from by decide, show (3 : Nat) < 5 from by decide, show (4 : Nat) < 5 from by decide, if_true]
  omega
theorem crN_small (x : List UInt64) (hx : ∀ i, lb x i < 9223372036854775808) (hl : x.length = 5) (i : Nat) (hi : i < 5) : lb (crN x 5).1 i < 67108864 := by
  rw [(crN_spec x hx 5 (by omega)).2 i, if_pos hi]; exact Nat.mod_lt _ (by decide)
/-- What stands above 2^130 comes back five times. -/
theorem fold_lb (x : List UInt64) (hx : ∀ i, lb x i < 9223372036854775808) (hl : x.length = 5) (i : Nat) : lb (fold26 x) i = if i = 0 then lb (crN x 5).1 0 + 5 * cN x 5 else lb (crN x 5).1 i := by
  have h := crN_spec x hx 5 (by omega)
  have hc := cN_lt x 5
  have h0 := crN_small x hx hl 0 (by decide)
  unfold fold26
  have hm : (UInt64.ofNat 5 * (crN x 5).2).toNat = 5 * cN x 5 := by
    rw [UInt64.toNat_mul, h.1, show (UInt64.ofNat 5).toNat = 5 from rfl]; exact Nat.mod_eq_of_lt (by omega)
  rw [lb_set _ _ _ _ (by rw [length_crN]; omega), add_noov _ _ (by rw [hm]; unfold lb at h0; omega), hm]
  by_cases e : i = 0
  · rw [if_pos e.symm, if_pos e]; rfl
  · rw [if_neg (fun h => e h.symm), if_neg e]
theorem fold_lv (x : List UInt64) (hx : ∀ i, lb x i < 9223372036854775808) (hl : x.length = 5) : lv (fold26 x) + (2 ^ 130 - 5) * cN x 5 = lv x := by
  have h1 := crN_lv x hx hl
  have h2 := fold_lb x hx hl
  rw [h1]
  unfold lv
  rw [h2 0, h2 1, h2 2, h2 3, h2 4]
  simp only [if_true, show ¬ (1 : Nat) = 0 from by decide, show ¬ (2 : Nat) = 0 from by decide, show ¬ (3 : Nat) = 0 from by decide, show ¬ (4 : Nat) = 0 from by decide, if_false]
  omega
end Go.Proofs.YtgblhjmnenmlkaaDoor
namespace Go.Proofs.YtgblhjmnenmlkaaDoor
/-- Bits that don't meet add up. -/
theorem or_add64 (a b : UInt64) (k : Nat) (ha : a.toNat < 2 ^ k) (hb : 2 ^ k ∣ b.toNat) : (a ||| b).toNat = a.toNat + b.toNat := by
  obtain ⟨c, hc⟩ := hb
  rw [UInt64.toNat_or, hc, Nat.or_comm, ← Nat.two_pow_add_eq_or_of_lt ha, Nat.add_comm]
theorem shl_toNat (x : UInt64) (s : Nat) (hs : s < 64) : (x <<< UInt64.ofNat s).toNat = x.toNat * 2 ^ s % 2 ^ 64 := by
  rw [UInt64.toNat_shiftLeft, Nat.shiftLeft_eq, UInt64.toNat_ofNat', Nat.mod_eq_of_lt (b := 2 ^ 64) (Nat.lt_trans hs (by decide)), Nat.mod_eq_of_lt (b := 64) hs]
theorem shr_toNat (x : UInt64) (s : Nat) (hs : s < 64) : (x >>> UInt64.ofNat s).toNat = x.toNat / 2 ^ s := by
  rw [UInt64.toNat_shiftRight, Nat.shiftRight_eq_div_pow, UInt64.toNat_ofNat', Nat.mod_eq_of_lt (b := 2 ^ 64) (Nat.lt_trans hs (by decide)), Nat.mod_eq_of_lt (b := 64) hs]
theorem rwN_toNat (b : List UInt8) (n : Nat) (hn : n ≤ 8) : (rwN b n).toNat = leN b n := by
  induction n with
  | zero => rfl
  | succ n ih =>
    have h := (b.getD n 0).toNat_lt
    have ih := ih (by omega)
    have h1 := leN_lt b n
    have e : (256 : Nat) ^ n = 2 ^ (8 * n) := by rw [Nat.pow_mul]
    have hs : ((b.getD n 0).toUInt64 <<< UInt64.ofNat (8 * n)).toNat = 2 ^ (8 * n) * (b.getD n 0).toNat := by
      rw [shl_toNat _ _ (by omega), UInt8.toNat_toUInt64, Nat.mul_comm]
      refine Nat.mod_eq_of_lt ?_
      have : 2 ^ (8 * n) * (b.getD n 0).toNat < 2 ^ (8 * n) * 2 ^ 8 := Nat.mul_lt_mul_of_pos_left h (Nat.pow_pos (by decide))
      rw [← Nat.pow_add] at this
      exact Nat.lt_of_lt_of_le this (Nat.pow_le_pow_right (by decide) (by omega))
    simp only [rwN, leN]
    rw [or_add64 _ _ (8 * n) (by rw [ih, ← e]; exact h1) ⟨_, hs⟩, hs, ih, e]
theorem getD_drop0 (b : List UInt8) (o i : Nat) : (b.drop o).getD i 0 = b.getD (o + i) 0 := by
  simp [List.getD_eq_getElem?_getD, List.getElem?_drop]
theorem leN_add (b : List UInt8) (o n : Nat) : leN b (o + n) = leN b o + 256 ^ o * leN (b.drop o) n := by
  induction n with
  | zero => simp [leN]
  | succ n ih =>
    rw [← Nat.add_assoc]
    simp only [leN]
    rw [ih, getD_drop0, Nat.mul_add, Nat.pow_add, Nat.mul_assoc, Nat.add_assoc]
theorem leN_congr (a b : List UInt8) (n : Nat) (h : ∀ i, i < n → a.getD i 0 = b.getD i 0) : leN a n = leN b n := by
  induction n with
  | zero => rfl
  | succ n ih => simp only [leN]; rw [ih (fun i hi => h i (by omega)), h n (by omega)]
theorem leN_over (b : List UInt8) (n m : Nat) (h : b.length ≤ n) : leN b (n + m) = leN b n := by
  rw [leN_add]
  have : leN (b.drop n) m = 0 := by
    rw [List.drop_eq_nil_of_le h]
    induction m with
    | zero => rfl
    | succ m ih => simp only [leN]; rw [ih]; simp
  rw [this]; simp
theorem mul_noov (a b : UInt64) (h : a.toNat * b.toNat < 18446744073709551616) : (a * b).toNat = a.toNat * b.toNat := by
  rw [UInt64.toNat_mul]; exact Nat.mod_eq_of_lt h
theorem byte_of (x : UInt64) (n : Nat) (hn : n < 8) : (x >>> UInt64.ofNat (8 * n)).toUInt8 = UInt8.ofNat (x.toNat / 256 ^ n % 256) := by
  refine UInt8.toNat_inj.1 ?_
  have e : (2 : Nat) ^ (8 * n) = 256 ^ n := by rw [Nat.pow_mul]
  rw [UInt64.toNat_toUInt8, shr_toNat _ _ (by omega), UInt8.toNat_ofNat', e]
  generalize x.toNat / 256 ^ n = y
  omega
theorem pw_get (l : List UInt8) (o : Nat) (x : UInt64) (n : Nat) (hn : n ≤ 8) (h : o + n ≤ l.length) (i : Nat) : (pwN l o x n).getD i 0 = if o ≤ i ∧ i < o + n then UInt8.ofNat (x.toNat / 256 ^ (i - o) % 256) else l.getD i 0 := by
  induction n with
  | zero => rw [if_neg (by omega)]; rfl
  | succ n ih =>
    simp only [pwN]
    rw [List.getD_eq_getElem?_getD, List.getElem?_set]
    by_cases e : o + n = i
    · rw [if_pos e, if_pos (by rw [length_pwN]; omega), if_pos (by omega), byte_of _ _ (by omega)]
      rw [show i - o = n by omega]; rfl
    · rw [if_neg e, ← List.getD_eq_getElem?_getD, ih (by omega) (by omega)]
      by_cases h2 : o ≤ i ∧ i < o + n
      · rw [if_pos h2, if_pos (by omega)]
      · rw [if_neg h2, if_neg (by omega)]
theorem bs_get (v n i : Nat) (h : i < n) : (bsN v n).getD i 0 = UInt8.ofNat (v / 256 ^ i % 256) := by
  induction n with
  | zero => omega
  | succ n ih =>
    simp only [bsN]
    rw [List.getD_eq_getElem?_getD]
    by_cases e : i < n
    · rw [List.getElem?_append_left (by rw [length_bsN]; exact e), ← List.getD_eq_getElem?_getD, ih e]
    · have : i = n := by omega
      subst this
      rw [List.getElem?_append_right (by rw [length_bsN]; omega), length_bsN, Nat.sub_self]; rfl
theorem ext_getD (a b : List UInt8) (h : a.length = b.length) (he : ∀ i, i < a.length → a.getD i 0 = b.getD i 0) : a = b := by
  refine List.ext_getElem? fun i => ?_
  by_cases hi : i < a.length
  · have := he i hi
    rw [List.getD_eq_getElem?_getD, List.getD_eq_getElem?_getD, List.getElem?_eq_getElem hi, List.getElem?_eq_getElem (by omega)] at this
    rw [List.getElem?_eq_getElem hi, List.getElem?_eq_getElem (by omega)]
    simpa using this
  · rw [List.getElem?_eq_none (by omega), List.getElem?_eq_none (by omega)]
theorem low_byte (a w i : Nat) (h : i < 8) : (a + 2 ^ 64 * w) / 256 ^ i % 256 = a / 256 ^ i % 256 := by
  have e : 2 ^ 64 * w = 256 ^ i * (256 * (256 ^ (7 - i) * w)) := by
    rw [← Nat.mul_assoc, ← Nat.mul_assoc, Nat.mul_assoc (256 ^ i), ← Nat.pow_succ', ← Nat.pow_add, show i + (7 - i + 1) = 8 by omega]
  rw [e, Nat.add_mul_div_left _ _ (Nat.pow_pos (by decide)), Nat.add_mul_mod_self_left]
theorem getD_over (l : List UInt8) (i : Nat) (h : l.length ≤ i) : l.getD i 0 = 0 := by
  rw [List.getD_eq_getElem?_getD, List.getElem?_eq_none h]; rfl
theorem getD_app (l z : List UInt8) (i : Nat) : (l ++ z).getD i 0 = if i < l.length then l.getD i 0 else z.getD (i - l.length) 0 := by
  by_cases h : i < l.length
  · rw [if_pos h, List.getD_eq_getElem?_getD, List.getElem?_append_left h, ← List.getD_eq_getElem?_getD]
  · rw [if_neg h, List.getD_eq_getElem?_getD, List.getElem?_append_right (by omega), ← List.getD_eq_getElem?_getD]
end Go.Proofs.YtgblhjmnenmlkaaDoor
namespace Go.Proofs.YtgblhjmnenmlkaaDoor
open Go.RowKit
theorem dn_lt2 (n v i : Nat) : 0 ≤ (dn n v).getD i 0 ∧ (dn n v).getD i 0 < 65536 := by
  rcases Nat.lt_or_ge i n with h | h
  · rw [dn_getk _ _ _ h]; have := dk_lt v i; omega
  · rw [List.getD_eq_getElem?_getD, List.getElem?_eq_none (by rw [length_dn]; exact h)]; simp
set_option maxHeartbeats 1000000 in
set_option maxRecDepth 100000 in
theorem of_ev (s : List UInt8) (hs : s.length ≤ 1000000) : Meets Tryd.prog 50 [.str s] [] (.sl 1000 0 (dl (leN s s.length)) 1) [(1000, some ⟨.aggI (dg (leN s s.length)), 3, true⟩)] := by
  refine meets_of_ev (nt := 36) Tryd.func50 rfl rfl (Nat.le_of_ble_eq_true rfl) ?_
  refine .seq ?_
  refine .region ?_
  refine .q (op_assign rfl) trivial rfl ?_
  refine .nil ?_
  show Ev _ _ _ _ _
  refine .seq ?_
  refine .region ?_
  refine .a (ap_build0 (z := 1) (c := .aggI []) Tryd.underlying49 inf3 rfl) trivial rfl ?_
  refine .q (op_assign rfl) trivial rfl ?_
  refine .nil ?_
  show Ev _ _ _ _ _
  refine .seq ?_
  refine .seq ?_
  refine .region ?_
  refine .q (op_assign rfl) trivial rfl ?_
  refine .nil ?_
  show Ev _ _ _ _ _
  refine .block ?_
  refine Ev.loop (ι := { k : Nat // k ≤ s.length }) (fun q => ⟨[(0, .str s), (3, .sl 1000 0 ((q.1 + 1) / 2) 1), (4, .i64 ((q.1 : Nat) : Int))], [(1000, some ⟨.aggI (dn ((q.1 + 1) / 2) (leN s q.1)), 3, true⟩)], 1008⟩) (fun q => s.length - q.1) ⟨0, Nat.zero_le _⟩ (StLe.mk [(1000, 1000)] rfl rfl ⟨⟨_, rfl, by rfl, rfl⟩, ⟨_, rfl, by (show AV.sl 1000 0 0 1 = AV.sl 1000 0 ((0 + 1) / 2) 1; rw [show (0 + 1) / 2 = 0 from by decide]), rfl⟩, ⟨_, rfl, by rfl, rfl⟩, trivial⟩ ⟨⟨_, _, rfl, rfl, by (show AV.aggI [] = AV.aggI (dn ((0 + 1) / 2) (leN s 0)); rw [show (0 + 1) / 2 = 0 from by decide]; rfl), rfl, id, rfl⟩, trivial⟩) ?_
  rintro ⟨k, hk⟩
  dsimp only
  have hl := length_dn ((k + 1) / 2) (leN s k)
  have hq : k = 2 * (k / 2) ∨ k = 2 * (k / 2) + 1 := by omega
  generalize hm : k / 2 = m at hq
  refine .seq ?_
  refine .seq ?_
  refine .region ?_
  refine .q (op_move rfl) trivial rfl ?_
  refine .q (op_move rfl) trivial rfl ?_
  refine .q (op_len_str Tryd.underlying9 rfl) trivial rfl ?_
  refine .q (op_cmpI rfl rfl rfl) trivial rfl ?_
  refine .nil ?_
  show Ev _ _ _ _ _
  refine .cond rfl (fun hc9 => ?_) (fun hc9 => ?_)
  · first | replace hc9 := of_decide_eq_true hc9 | replace hc9 := of_decide_eq_false hc9 | replace hc9 := eq_of_beq hc9 | replace hc9 := ne_of_beq_false hc9 | simp only [bne_iff_ne, ne_eq] at hc9 | simp only [bne_eq_false_iff_eq] at hc9
    refine .skip ?_
    show Ev _ _ _ _ _
    refine .seq ?_
    refine .block ?_
    refine .seq ?_
    refine .region ?_
    refine .q (op_move rfl) trivial rfl ?_
    refine .q (op_remI rfl rfl ⟨by first | omega | (simp only [AV.len]; omega) | (simp only [AV.len, List.length_set]; omega) | assumption | (simp [AV.len]; done), by first | omega | (simp only [AV.len]; omega) | (simp only [AV.len, List.length_set]; omega) | assumption | (simp [AV.len]; done)⟩) trivial rfl ?_
    refine .q (op_cmpI rfl rfl rfl) trivial rfl ?_
    refine .nil ?_
    show Ev _ _ _ _ _
    refine .cond rfl (fun hc14 => ?_) (fun hc14 => ?_)
    · first | replace hc14 := of_decide_eq_true hc14 | replace hc14 := of_decide_eq_false hc14 | replace hc14 := eq_of_beq hc14 | replace hc14 := ne_of_beq_false hc14 | simp only [bne_iff_ne, ne_eq] at hc14 | simp only [bne_eq_false_iff_eq] at hc14
      refine .region ?_
      refine .q (op_move rfl) trivial rfl ?_
      refine .q (op_move rfl) trivial rfl ?_
      refine .q (op_move rfl) trivial rfl ?_
      refine .q (op_index_str Tryd.underlying9 rfl rfl rfl (by omega)) trivial rfl ?_
      refine .q (op_conv Tryd.underlying5 Tryd.underlying3 rfl rfl) trivial rfl ?_
      refine .a (ap_build (us := [_]) (c := .aggI [_]) Tryd.underlying49 inf3 rfl (by decide) (by decide) ⟨rfl, rfl, rfl, trivial⟩ rfl) trivial rfl ?_
      refine .a (ap_cat Tryd.underlying49 inf3 rfl rfl rfl rfl (by first | omega | (simp only [AV.len, length_dn]; done) | (simp [AV.len]; done)) rfl rfl (by first | omega | (simp only [AV.len]; done) | (simp [AV.len]; done)) rfl (by first | omega | (simp only [AV.len, length_dn, length_bsN]; done) | (simp [AV.len]; done))) trivial rfl ?_
      refine .q (op_assign rfl) trivial rfl ?_
      refine .nil ?_
      show Ev _ _ _ _ _
      refine .region ?_
      refine .q (op_move rfl) trivial rfl ?_
      refine .q (op_addI rfl rfl ⟨by first | omega | (simp only [AV.len]; omega) | (simp only [AV.len, List.length_set]; omega) | assumption | (simp [AV.len]; done), by first | omega | (simp only [AV.len]; omega) | (simp only [AV.len, List.length_set]; omega) | assumption | (simp [AV.len]; done)⟩) trivial rfl ?_
      refine .q (op_assign rfl) trivial rfl ?_
      refine .nil ?_
      first
        | exact ⟨⟨k + 1, by omega⟩, by dsimp only; omega, StLe.mk [(1000, 1016)] rfl rfl ⟨⟨_, rfl, by rfl, rfl⟩, ⟨_, rfl, by (simp only [AV.ren]; congr 1; omega), rfl⟩, ⟨_, rfl, by rfl, rfl⟩, trivial⟩ ⟨⟨_, _, rfl, rfl, by (simp only [AV.ren]; rw [show (k + 1) / 2 = m by omega, show (k + 1 + 1) / 2 = m + 1 by omega, show k = 2 * m by omega, of_even]), rfl, id, rfl⟩, trivial⟩⟩
        | exact ⟨⟨k + 1, by omega⟩, by dsimp only; omega, StLe.mk [(1000, 1000)] rfl rfl ⟨⟨_, rfl, by rfl, rfl⟩, ⟨_, rfl, by (simp only [AV.ren]; congr 1; omega), rfl⟩, ⟨_, rfl, by rfl, rfl⟩, trivial⟩ ⟨⟨_, _, rfl, rfl, by (simp only [AV.ren]; rw [show (k + 1) / 2 = m + 1 by omega, show (k + 1 + 1) / 2 = m + 1 by omega, show k = 2 * m + 1 by omega, show 2 * m + 1 + 1 = 2 * m + 2 from rfl, of_odd]), rfl, id, rfl⟩, trivial⟩⟩
    · first | replace hc14 := of_decide_eq_true hc14 | replace hc14 := of_decide_eq_false hc14 | replace hc14 := eq_of_beq hc14 | replace hc14 := ne_of_beq_false hc14 | simp only [bne_iff_ne, ne_eq] at hc14 | simp only [bne_eq_false_iff_eq] at hc14
      refine .drawn [[], [], [1], [0, 1, 2], [0, 1, 2, 3], [], [], [5, 6], [5, 6, 7], [5, 6, 7, 8], [0, 1, 2, 3, 4, 5, 6, 7, 8, 9], [0, 1, 2, 3, 4, 5, 6, 7, 8, 9, 10], [0, 1, 2, 3, 4, 5, 6, 7, 8, 9, 10, 11]] [4, 12] [12] (by kernel_rfl) (by kernel_rfl) rfl ?_
      show DK _ [0, 1, 2, 3, 4, 5, 6, 7, 8, 9, 10, 11, 12] _ _ _
      refine .q rfl (op_move rfl) trivial ?_
      refine .q rfl (op_move rfl) trivial ?_
      refine .q rfl (op_quoI rfl rfl ⟨by first | omega | (simp only [AV.len]; omega) | (simp only [AV.len, List.length_set]; omega) | assumption | (simp [AV.len]; done), ⟨by first | omega | (simp only [AV.len]; omega) | (simp only [AV.len, List.length_set]; omega) | assumption | (simp [AV.len]; done), by first | omega | (simp only [AV.len]; omega) | (simp only [AV.len, List.length_set]; omega) | assumption | (simp [AV.len]; done)⟩, by first | omega | (simp only [AV.len]; omega) | (simp only [AV.len, List.length_set]; omega) | assumption | (simp [AV.len]; done)⟩) trivial ?_
      refine .q rfl (ap_idx0 Tryd.underlying49 inf3.sz rfl rfl (i := m) (by omega) (by omega)) trivial ?_
      refine .q rfl (op_load Tryd.underlying3 rfl rfl rfl rfl (by simp only [AV.len]; omega)) trivial ?_
      refine .q rfl (op_move rfl) trivial ?_
      refine .q rfl (op_move rfl) trivial ?_
      refine .q rfl (op_index_str Tryd.underlying9 rfl rfl rfl (by omega)) trivial ?_
      refine .q rfl (op_conv Tryd.underlying5 Tryd.underlying3 rfl rfl) trivial ?_
      have hb := (s.getD k 0).toNat_lt
      refine .q rfl (op_mulI rfl rfl ⟨by first | omega | (simp only [AV.len]; omega) | (simp only [AV.len, List.length_set]; omega) | assumption | (simp [AV.len]; done), by first | omega | (simp only [AV.len]; omega) | (simp only [AV.len, List.length_set]; omega) | assumption | (simp [AV.len]; done)⟩) trivial ?_
      have hd := dn_lt2 ((k + 1) / 2) (leN s k) m
      refine .q rfl (op_addI rfl rfl ⟨by first | omega | (simp only [AV.len]; omega) | (simp only [AV.len, List.length_set]; omega) | assumption | (simp [AV.len]; done), by first | omega | (simp only [AV.len]; omega) | (simp only [AV.len, List.length_set]; omega) | assumption | (simp [AV.len]; done)⟩) trivial ?_
      refine .q rfl (ap_idx0 Tryd.underlying49 inf3.sz rfl rfl (i := m) (by omega) (by omega)) trivial ?_
      refine .w rfl (op_store inf3.sz rfl rfl rfl rfl rfl (by simp only [AV.len]; omega)) trivial rfl rfl ?_
      refine .nil ?_
      show Ev _ _ _ _ _
      refine .region ?_
      refine .q (op_move rfl) trivial rfl ?_
      refine .q (op_addI rfl rfl ⟨by first | omega | (simp only [AV.len]; omega) | (simp only [AV.len, List.length_set]; omega) | assumption | (simp [AV.len]; done), by first | omega | (simp only [AV.len]; omega) | (simp only [AV.len, List.length_set]; omega) | assumption | (simp [AV.len]; done)⟩) trivial rfl ?_
      refine .q (op_assign rfl) trivial rfl ?_
      refine .nil ?_
      first
        | exact ⟨⟨k + 1, by omega⟩, by dsimp only; omega, StLe.mk [(1000, 1016)] rfl rfl ⟨⟨_, rfl, by rfl, rfl⟩, ⟨_, rfl, by (simp only [AV.ren]; congr 1; omega), rfl⟩, ⟨_, rfl, by rfl, rfl⟩, trivial⟩ ⟨⟨_, _, rfl, rfl, by (simp only [AV.ren]; rw [show (k + 1) / 2 = m by omega, show (k + 1 + 1) / 2 = m + 1 by omega, show k = 2 * m by omega, of_even]), rfl, id, rfl⟩, trivial⟩⟩
        | exact ⟨⟨k + 1, by omega⟩, by dsimp only; omega, StLe.mk [(1000, 1000)] rfl rfl ⟨⟨_, rfl, by rfl, rfl⟩, ⟨_, rfl, by (simp only [AV.ren]; congr 1; omega), rfl⟩, ⟨_, rfl, by rfl, rfl⟩, trivial⟩ ⟨⟨_, _, rfl, rfl, by (simp only [AV.ren]; rw [show (k + 1) / 2 = m + 1 by omega, show (k + 1 + 1) / 2 = m + 1 by omega, show k = 2 * m + 1 by omega, show 2 * m + 1 + 1 = 2 * m + 2 from rfl, of_odd]), rfl, id, rfl⟩, trivial⟩⟩
  · first | replace hc9 := of_decide_eq_true hc9 | replace hc9 := of_decide_eq_false hc9 | replace hc9 := eq_of_beq hc9 | replace hc9 := ne_of_beq_false hc9 | simp only [bne_iff_ne, ne_eq] at hc9 | simp only [bne_eq_false_iff_eq] at hc9
    refine .exit ?_
    show Ev _ _ _ _ _
    refine .seq ?_
    refine .region ?_
    refine .q (op_move rfl) trivial rfl ?_
    refine .q (op_call (U := []) [(500, 1000)] [] (trim_dn ((k + 1) / 2) (leN s k) (leN_lt2 s k) (by omega)) Tryd.func87 (by kernel_rfl) rfl rfl rfl (⟨⟨_, rfl, rfl, rfl⟩, trivial⟩) (⟨⟨_, _, rfl, rfl, rfl, rfl, (fun h => by cases h), rfl⟩, trivial⟩) (trivial) (⟨(fun h => by cases h), trivial⟩) rfl) trivial rfl ?_
    refine .q (op_assign rfl) trivial rfl ?_
    refine .nil ?_
    show Ev _ _ _ _ _
    refine Ev.pre (H2 := [(1000, some ⟨.aggI (dg (leN s s.length)), 3, true⟩)]) ⟨⟨.aggI (dn ((k + 1) / 2) (leN s k)), dl (leN s k), rfl, (by rw [show s.length = k by omega]; exact pre_dn _ _ (dl_le (leN_lt2 s k)))⟩, trivial⟩ ?_
    refine .ret ?_
    show RetOk _ _ _ _ _ _ _
    exact ret1v rfl (.inl rfl) rfl (by rw [show s.length = k by omega]; rfl) ⟨rfl, trivial⟩
set_option maxHeartbeats 1000000 in
set_option maxRecDepth 100000 in
theorem cmp_ev (a b : Nat) (ha : dl a ≤ 1000000) (hb : dl b ≤ 1000000) : Meets Tryd.prog 56 [.sl 500 0 (dl a) 1, .sl 501 0 (dl b) 1] [(500, some ⟨.aggI (dg a), 3, false⟩), (501, some ⟨.aggI (dg b), 3, false⟩)] (.i64 (cmpN a b)) [] := by
  refine meets_of_ev (nt := 45) Tryd.func56 rfl rfl (Nat.le_of_ble_eq_true rfl) ?_
  refine .seq ?_
  refine .region ?_
  refine .q (op_assign rfl) trivial rfl ?_
  refine .nil ?_
  show Ev _ _ _ _ _
  refine .seq ?_
  refine .region ?_
  refine .q (op_move rfl) trivial rfl ?_
  refine .q (op_call (U := []) [(500, 500)] [] (trim_dn (dl a) a (dl_lt a) ha) Tryd.func87 (by kernel_rfl) rfl rfl rfl (⟨⟨_, rfl, rfl, rfl⟩, trivial⟩) (⟨⟨_, _, rfl, rfl, rfl, rfl, (fun h => by cases h), rfl⟩, trivial⟩) (trivial) (⟨(fun h => by cases h), trivial⟩) rfl) trivial rfl ?_
  refine .q (op_assign rfl) trivial rfl ?_
  refine .nil ?_
  show Ev _ _ _ _ _
  refine .seq ?_
  refine .region ?_
  refine .q (op_move rfl) trivial rfl ?_
  refine .q (op_call (U := []) [(500, 501)] [] (trim_dn (dl b) b (dl_lt b) hb) Tryd.func87 (by kernel_rfl) rfl rfl rfl (⟨⟨_, rfl, rfl, rfl⟩, trivial⟩) (⟨⟨_, _, rfl, rfl, rfl, rfl, (fun h => by cases h), rfl⟩, trivial⟩) (trivial) (⟨(fun h => by cases h), trivial⟩) rfl) trivial rfl ?_
  refine .q (op_assign rfl) trivial rfl ?_
  refine .nil ?_
  show Ev _ _ _ _ _
  refine .seq ?_
  refine .seq ?_
  refine .region ?_
  refine .q (op_move rfl) trivial rfl ?_
  refine .q (op_len_sl Tryd.underlying49 rfl) trivial rfl ?_
  refine .q (op_move rfl) trivial rfl ?_
  refine .q (op_len_sl Tryd.underlying49 rfl) trivial rfl ?_
  refine .q (op_cmpI rfl rfl rfl) trivial rfl ?_
  refine .nil ?_
  show Ev _ _ _ _ _
  refine .cond rfl (fun hc14 => ?_) (fun hc14 => ?_)
  · first | replace hc14 := of_decide_eq_true hc14 | replace hc14 := of_decide_eq_false hc14 | replace hc14 := eq_of_beq hc14 | replace hc14 := ne_of_beq_false hc14 | simp only [bne_iff_ne, ne_eq] at hc14 | simp only [bne_eq_false_iff_eq] at hc14
    refine .seq ?_
    refine .seq ?_
    refine .region ?_
    refine .q (op_move rfl) trivial rfl ?_
    refine .q (op_len_sl Tryd.underlying49 rfl) trivial rfl ?_
    refine .q (op_move rfl) trivial rfl ?_
    refine .q (op_len_sl Tryd.underlying49 rfl) trivial rfl ?_
    refine .q (op_cmpI rfl rfl rfl) trivial rfl ?_
    refine .nil ?_
    show Ev _ _ _ _ _
    refine .cond rfl (fun hc19 => ?_) (fun hc19 => ?_)
    · first | replace hc19 := of_decide_eq_true hc19 | replace hc19 := of_decide_eq_false hc19 | replace hc19 := eq_of_beq hc19 | replace hc19 := ne_of_beq_false hc19 | simp only [bne_iff_ne, ne_eq] at hc19 | simp only [bne_eq_false_iff_eq] at hc19
      refine .seq ?_
      refine .region ?_
      refine .q (op_assign rfl) trivial rfl ?_
      refine .nil ?_
      show Ev _ _ _ _ _
      refine .ret ?_
      show RetOk _ _ _ _ _ _ _
      first
        | exact ret1v rfl (.inl rfl) rfl (congrArg AV.i64 (cmpN_lt (by first | exact cmp_dl (by omega) | exact cmp_lt (k := k - 1) (hkk2 (by omega)) (by omega))).symm) trivial
        | exact ret1v rfl (.inl rfl) rfl (congrArg AV.i64 (cmpN_gt (by first | exact cmp_dl (by omega) | exact cmp_lt (k := k - 1) (hkk2 (by omega)).symm (by omega))).symm) trivial
        | exact ret1v rfl (.inl rfl) rfl (congrArg AV.i64 (cmpN_eq (by rw [show k = 0 by omega] at hkk; simpa using hkk)).symm) trivial
    · first | replace hc19 := of_decide_eq_true hc19 | replace hc19 := of_decide_eq_false hc19 | replace hc19 := eq_of_beq hc19 | replace hc19 := ne_of_beq_false hc19 | simp only [bne_iff_ne, ne_eq] at hc19 | simp only [bne_eq_false_iff_eq] at hc19
      refine .skip ?_
      show Ev _ _ _ _ _
      refine .seq ?_
      refine .region ?_
      refine .q (op_assign rfl) trivial rfl ?_
      refine .nil ?_
      show Ev _ _ _ _ _
      refine .ret ?_
      show RetOk _ _ _ _ _ _ _
      first
        | exact ret1v rfl (.inl rfl) rfl (congrArg AV.i64 (cmpN_lt (by first | exact cmp_dl (by omega) | exact cmp_lt (k := k - 1) (hkk2 (by omega)) (by omega))).symm) trivial
        | exact ret1v rfl (.inl rfl) rfl (congrArg AV.i64 (cmpN_gt (by first | exact cmp_dl (by omega) | exact cmp_lt (k := k - 1) (hkk2 (by omega)).symm (by omega))).symm) trivial
        | exact ret1v rfl (.inl rfl) rfl (congrArg AV.i64 (cmpN_eq (by rw [show k = 0 by omega] at hkk; simpa using hkk)).symm) trivial
  · first | replace hc14 := of_decide_eq_true hc14 | replace hc14 := of_decide_eq_false hc14 | replace hc14 := eq_of_beq hc14 | replace hc14 := ne_of_beq_false hc14 | simp only [bne_iff_ne, ne_eq] at hc14 | simp only [bne_eq_false_iff_eq] at hc14
    refine .skip ?_
    show Ev _ _ _ _ _
    refine .seq ?_
    refine .seq ?_
    refine .region ?_
    refine .q (op_move rfl) trivial rfl ?_
    refine .q (op_len_sl Tryd.underlying49 rfl) trivial rfl ?_
    refine .q (op_subI rfl rfl ⟨by first | omega | (simp only [AV.len]; omega) | (simp only [AV.len, List.length_set]; omega) | assumption | (simp [AV.len]; done), by first | omega | (simp only [AV.len]; omega) | (simp only [AV.len, List.length_set]; omega) | assumption | (simp [AV.len]; done)⟩) trivial rfl ?_
    refine .q (op_assign rfl) trivial rfl ?_
    refine .nil ?_
    show Ev _ _ _ _ _
    refine .block ?_
    refine Ev.loop (ι := { k : Nat // k ≤ dl a ∧ a / 65536 ^ k = b / 65536 ^ k }) (fun q => ⟨[(0, .sl 500 0 (dl a) 1), (1, .sl 501 0 (dl b) 1), (5, .i64 (((q.1 : Nat) : Int) - 1))], [(500, some ⟨.aggI (dg a), 3, false⟩), (501, some ⟨.aggI (dg b), 3, false⟩)], 1000⟩) (fun q => q.1) ⟨dl a, Nat.le_refl _, by rw [div_top, show dl a = dl b by omega, div_top]⟩ (StLe.mk [] rfl rfl ⟨⟨_, rfl, by first | rfl | (simp only [AV.ren]; congr 1; omega), rfl⟩, ⟨_, rfl, by first | rfl | (simp only [AV.ren]; congr 1; omega), rfl⟩, ⟨_, rfl, by first | rfl | (simp only [AV.ren]; congr 1; omega), rfl⟩, trivial⟩ ⟨⟨_, _, rfl, rfl, rfl, rfl, id, rfl⟩, ⟨_, _, rfl, rfl, rfl, rfl, id, rfl⟩, trivial⟩) ?_
    rintro ⟨k, hk, hkk⟩
    try dsimp only
    have hA : 0 < k → (dg a).getD (k - 1) 0 = (dk a (k - 1) : Int) := fun h => dn_getk _ _ _ (by omega)
    have hB : 0 < k → (dg b).getD (k - 1) 0 = (dk b (k - 1) : Int) := fun h => dn_getk _ _ _ (by omega)
    have hab : dl a = dl b := by omega
    have hkk2 : 0 < k → a / 65536 ^ (k - 1 + 1) = b / 65536 ^ (k - 1 + 1) := fun h => by rw [show k - 1 + 1 = k by omega]; exact hkk
    have l1 := length_dg a
    have l2 := length_dg b
    refine .seq ?_
    refine .seq ?_
    refine .region ?_
    refine .q (op_move rfl) trivial rfl ?_
    refine .q (op_cmpI rfl rfl rfl) trivial rfl ?_
    refine .nil ?_
    show Ev _ _ _ _ _
    refine .cond rfl (fun hc24 => ?_) (fun hc24 => ?_)
    · first | replace hc24 := of_decide_eq_true hc24 | replace hc24 := of_decide_eq_false hc24 | replace hc24 := eq_of_beq hc24 | replace hc24 := ne_of_beq_false hc24 | simp only [bne_iff_ne, ne_eq] at hc24 | simp only [bne_eq_false_iff_eq] at hc24
      refine .skip ?_
      show Ev _ _ _ _ _
      refine .seq ?_
      refine .block ?_
      refine .seq ?_
      refine .seq ?_
      refine .drawn [[], [], [0, 1], [0, 1, 2], [], [], [4, 5], [4, 5, 6], [0, 1, 2, 3, 4, 5, 6, 7]] [3, 7] [] (by kernel_rfl) (by kernel_rfl) rfl ?_
      show DK _ [0, 1, 2, 3, 4, 5, 6, 7, 8] _ _ _
      refine .q rfl (op_move rfl) trivial ?_
      refine .q rfl (op_move rfl) trivial ?_
      refine .q rfl (ap_idx0 Tryd.underlying49 inf3.sz rfl rfl (i := k - 1) (by omega) (by omega)) trivial ?_
      refine .q rfl (op_load Tryd.underlying3 rfl rfl rfl rfl (by simp only [AV.len]; omega)) trivial ?_
      refine .as (.i64 (dk a (k - 1) : Int)) (congrArg AV.i64 (hA (by omega))) ?_
      refine .q rfl (op_move rfl) trivial ?_
      refine .q rfl (op_move rfl) trivial ?_
      refine .q rfl (ap_idx0 Tryd.underlying49 inf3.sz rfl rfl (i := k - 1) (by omega) (by omega)) trivial ?_
      refine .q rfl (op_load Tryd.underlying3 rfl rfl rfl rfl (by simp only [AV.len]; omega)) trivial ?_
      refine .as (.i64 (dk b (k - 1) : Int)) (congrArg AV.i64 (hB (by omega))) ?_
      refine .q rfl (op_cmpI rfl rfl rfl) trivial ?_
      refine .nil ?_
      show Ev _ _ _ _ _
      refine .cond rfl (fun hc35 => ?_) (fun hc35 => ?_)
      · first | replace hc35 := of_decide_eq_true hc35 | replace hc35 := of_decide_eq_false hc35 | replace hc35 := eq_of_beq hc35 | replace hc35 := ne_of_beq_false hc35 | simp only [bne_iff_ne, ne_eq] at hc35 | simp only [bne_eq_false_iff_eq] at hc35
        refine .seq ?_
        refine .region ?_
        refine .q (op_assign rfl) trivial rfl ?_
        refine .nil ?_
        show Ev _ _ _ _ _
        refine .ret ?_
        show RetOk _ _ _ _ _ _ _
        first
          | exact ret1v rfl (.inl rfl) rfl (congrArg AV.i64 (cmpN_lt (by first | exact cmp_dl (by omega) | exact cmp_lt (k := k - 1) (hkk2 (by omega)) (by omega))).symm) trivial
          | exact ret1v rfl (.inl rfl) rfl (congrArg AV.i64 (cmpN_gt (by first | exact cmp_dl (by omega) | exact cmp_lt (k := k - 1) (hkk2 (by omega)).symm (by omega))).symm) trivial
          | exact ret1v rfl (.inl rfl) rfl (congrArg AV.i64 (cmpN_eq (by rw [show k = 0 by omega] at hkk; simpa using hkk)).symm) trivial
      · first | replace hc35 := of_decide_eq_true hc35 | replace hc35 := of_decide_eq_false hc35 | replace hc35 := eq_of_beq hc35 | replace hc35 := ne_of_beq_false hc35 | simp only [bne_iff_ne, ne_eq] at hc35 | simp only [bne_eq_false_iff_eq] at hc35
        refine .skip ?_
        show Ev _ _ _ _ _
        refine .seq ?_
        refine .drawn [[], [], [0, 1], [0, 1, 2], [], [], [4, 5], [4, 5, 6], [0, 1, 2, 3, 4, 5, 6, 7]] [3, 7] [] (by kernel_rfl) (by kernel_rfl) rfl ?_
        show DK _ [0, 1, 2, 3, 4, 5, 6, 7, 8] _ _ _
        refine .q rfl (op_move rfl) trivial ?_
        refine .q rfl (op_move rfl) trivial ?_
        refine .q rfl (ap_idx0 Tryd.underlying49 inf3.sz rfl rfl (i := k - 1) (by omega) (by omega)) trivial ?_
        refine .q rfl (op_load Tryd.underlying3 rfl rfl rfl rfl (by simp only [AV.len]; omega)) trivial ?_
        refine .as (.i64 (dk a (k - 1) : Int)) (congrArg AV.i64 (hA (by omega))) ?_
        refine .q rfl (op_move rfl) trivial ?_
        refine .q rfl (op_move rfl) trivial ?_
        refine .q rfl (ap_idx0 Tryd.underlying49 inf3.sz rfl rfl (i := k - 1) (by omega) (by omega)) trivial ?_
        refine .q rfl (op_load Tryd.underlying3 rfl rfl rfl rfl (by simp only [AV.len]; omega)) trivial ?_
        refine .as (.i64 (dk b (k - 1) : Int)) (congrArg AV.i64 (hB (by omega))) ?_
        refine .q rfl (op_cmpI rfl rfl rfl) trivial ?_
        refine .nil ?_
        show Ev _ _ _ _ _
        refine .cond rfl (fun hc44 => ?_) (fun hc44 => ?_)
        · first | replace hc44 := of_decide_eq_true hc44 | replace hc44 := of_decide_eq_false hc44 | replace hc44 := eq_of_beq hc44 | replace hc44 := ne_of_beq_false hc44 | simp only [bne_iff_ne, ne_eq] at hc44 | simp only [bne_eq_false_iff_eq] at hc44
          refine .seq ?_
          refine .region ?_
          refine .q (op_assign rfl) trivial rfl ?_
          refine .nil ?_
          show Ev _ _ _ _ _
          refine .ret ?_
          show RetOk _ _ _ _ _ _ _
          first
            | exact ret1v rfl (.inl rfl) rfl (congrArg AV.i64 (cmpN_lt (by first | exact cmp_dl (by omega) | exact cmp_lt (k := k - 1) (hkk2 (by omega)) (by omega))).symm) trivial
            | exact ret1v rfl (.inl rfl) rfl (congrArg AV.i64 (cmpN_gt (by first | exact cmp_dl (by omega) | exact cmp_lt (k := k - 1) (hkk2 (by omega)).symm (by omega))).symm) trivial
            | exact ret1v rfl (.inl rfl) rfl (congrArg AV.i64 (cmpN_eq (by rw [show k = 0 by omega] at hkk; simpa using hkk)).symm) trivial
        · first | replace hc44 := of_decide_eq_true hc44 | replace hc44 := of_decide_eq_false hc44 | replace hc44 := eq_of_beq hc44 | replace hc44 := ne_of_beq_false hc44 | simp only [bne_iff_ne, ne_eq] at hc44 | simp only [bne_eq_false_iff_eq] at hc44
          refine .skip ?_
          show Ev _ _ _ _ _
          refine .region ?_
          refine .q (op_move rfl) trivial rfl ?_
          refine .q (op_subI rfl rfl ⟨by first | omega | (simp only [AV.len]; omega) | (simp only [AV.len, List.length_set]; omega) | assumption | (simp [AV.len]; done), by first | omega | (simp only [AV.len]; omega) | (simp only [AV.len, List.length_set]; omega) | assumption | (simp [AV.len]; done)⟩) trivial rfl ?_
          refine .q (op_assign rfl) trivial rfl ?_
          refine .nil ?_
          exact ⟨⟨k - 1, by omega, cmp_eq (k := k - 1) (by rw [show k - 1 + 1 = k by omega]; exact hkk) (by omega)⟩, by (try dsimp only); omega, StLe.mk [] rfl rfl ⟨⟨_, rfl, by rfl, rfl⟩, ⟨_, rfl, by rfl, rfl⟩, ⟨_, rfl, by (simp only [AV.ren]; congr 1; omega), rfl⟩, trivial⟩ ⟨⟨_, _, rfl, rfl, rfl, rfl, id, rfl⟩, ⟨_, _, rfl, rfl, rfl, rfl, id, rfl⟩, trivial⟩⟩
    · first | replace hc24 := of_decide_eq_true hc24 | replace hc24 := of_decide_eq_false hc24 | replace hc24 := eq_of_beq hc24 | replace hc24 := ne_of_beq_false hc24 | simp only [bne_iff_ne, ne_eq] at hc24 | simp only [bne_eq_false_iff_eq] at hc24
      refine .exit ?_
      show Ev _ _ _ _ _
      refine .seq ?_
      refine .region ?_
      refine .q (op_assign rfl) trivial rfl ?_
      refine .nil ?_
      show Ev _ _ _ _ _
      refine .ret ?_
      show RetOk _ _ _ _ _ _ _
      first
        | exact ret1v rfl (.inl rfl) rfl (congrArg AV.i64 (cmpN_lt (by first | exact cmp_dl (by omega) | exact cmp_lt (k := k - 1) (hkk2 (by omega)) (by omega))).symm) trivial
        | exact ret1v rfl (.inl rfl) rfl (congrArg AV.i64 (cmpN_gt (by first | exact cmp_dl (by omega) | exact cmp_lt (k := k - 1) (hkk2 (by omega)).symm (by omega))).symm) trivial
        | exact ret1v rfl (.inl rfl) rfl (congrArg AV.i64 (cmpN_eq (by rw [show k = 0 by omega] at hkk; simpa using hkk)).symm) trivial
end Go.Proofs.YtgblhjmnenmlkaaDoor
namespace Go.Proofs.YtgblhjmnenmlkaaDoor
/-- A number whose digit k is another one. -/
def sd (X k d : Nat) : Nat := X - dk X k * 65536 ^ k + d * 65536 ^ k
theorem dk_mul_le (X k : Nat) : dk X k * 65536 ^ k ≤ X :=
  Nat.le_trans (Nat.mul_le_mul_right _ (Nat.mod_le _ _)) (Nat.div_mul_le_self X (65536 ^ k))
theorem sd_add (X k d : Nat) : sd X k d + dk X k * 65536 ^ k = X + d * 65536 ^ k := by
  have := dk_mul_le X k
  unfold sd
  omega
theorem dk_succ (X k : Nat) : dk X (k + 1) = dk (X / 65536) k := by
  unfold dk
  rw [Nat.div_div_eq_div_mul, Nat.pow_succ, Nat.mul_comm (65536 ^ k)]
theorem sd_succ (X k d : Nat) : sd X (k + 1) d = 65536 * sd (X / 65536) k d + X % 65536 := by
  have h1 := sd_add X (k + 1) d
  have h2 := sd_add (X / 65536) k d
  rw [dk_succ, Nat.pow_succ, ← Nat.mul_assoc, ← Nat.mul_assoc] at h1
  omega
theorem dn_set (N X k d : Nat) (hk : k < N) (hd : d < 65536) : (dn N X).set k (d : Int) = dn N (sd X k d) := by
  induction k generalizing N X with
  | zero =>
    obtain ⟨n, rfl⟩ : ∃ n, N = n + 1 := ⟨N - 1, by omega⟩
    have h1 := sd_add X 0 d
    have h2 : dk X 0 = X % 65536 := by simp [dk]
    rw [h2, Nat.pow_zero, Nat.mul_one, Nat.mul_one] at h1
    simp only [dn, List.set_cons_zero]
    rw [show sd X 0 d % 65536 = d by omega, show sd X 0 d / 65536 = X / 65536 by omega]
  | succ k ih =>
    obtain ⟨n, rfl⟩ : ∃ n, N = n + 1 := ⟨N - 1, by omega⟩
    simp only [dn, List.set_cons_succ]
    rw [ih n (X / 65536) (by omega), sd_succ]
    rw [show (65536 * sd (X / 65536) k d + X % 65536) % 65536 = X % 65536 by omega, show (65536 * sd (X / 65536) k d + X % 65536) / 65536 = sd (X / 65536) k d by omega]
theorem dn_setI (N X k : Nat) (d : Int) (x : Nat) (hk : k < N) (h : d = ((x % 65536 : Nat) : Int)) : (dn N X).set k d = dn N (sd X k (x % 65536)) := by
  rw [h]; exact dn_set _ _ _ _ hk (Nat.mod_lt _ (by decide))
theorem mod_next (v k : Nat) : v % 65536 ^ (k + 1) = v % 65536 ^ k + 65536 ^ k * dk v k := by
  rw [Nat.pow_succ, Nat.mod_mul]; rfl
theorem carry_step {X c k E : Nat} (h : X + c * 65536 ^ k = E) (A x : Nat) (hx : x = dk X k + A + c) : sd X k (x % 65536) + x / 65536 * 65536 ^ (k + 1) = E + A * 65536 ^ k := by
  have h1 := sd_add X k (x % 65536)
  rw [Nat.pow_succ]
  generalize hP : 65536 ^ k = P at *
  have e1 : x / 65536 * (P * 65536) + x % 65536 * P = x * P := by
    have e2 : x / 65536 * (P * 65536) = x / 65536 * 65536 * P := by simp only [Nat.mul_comm, Nat.mul_left_comm]
    rw [e2, ← Nat.add_mul]; congr 1; omega
  have e3 : x * P = dk X k * P + A * P + c * P := by rw [hx, Nat.add_mul, Nat.add_mul]
  omega
theorem mul_step {X c i j A b E : Nat} (h : X + c * 65536 ^ (i + j) = E + 65536 ^ i * (A * (b % 65536 ^ j))) (x : Nat) (hx : x = dk X (i + j) + A * dk b j + c) :
    sd X (i + j) (x % 65536) + x / 65536 * 65536 ^ (i + (j + 1)) = E + 65536 ^ i * (A * (b % 65536 ^ (j + 1))) := by
  have h1 := carry_step h (A * dk b j) x hx
  rw [Nat.add_assoc] at h1
  rw [h1, mod_next, Nat.mul_add, Nat.mul_add, Nat.pow_add]
  have e : A * dk b j * (65536 ^ i * 65536 ^ j) = 65536 ^ i * (A * (65536 ^ j * dk b j)) := by ac_rfl
  omega
theorem mul_row {a b i X c : Nat} (h : X + c * 65536 ^ (i + dl b) = a % 65536 ^ i * b + 65536 ^ i * (dk a i * (b % 65536 ^ dl b))) : X + c * 65536 ^ (i + dl b) = a % 65536 ^ (i + 1) * b := by
  rw [h, Nat.mod_eq_of_lt (dl_lt b), mod_next, Nat.add_mul, Nat.mul_assoc]
theorem row_lt (a b i : Nat) : a % 65536 ^ (i + 1) * b < 65536 ^ (i + 1 + dl b) := by
  rw [Nat.pow_add 65536 (i + 1)]
  have h1 := Nat.mod_lt a (show 0 < 65536 ^ (i + 1) from Nat.pow_pos (by decide))
  have h2 := dl_lt b
  exact Nat.mul_lt_mul_of_lt_of_le h1 (Nat.le_of_lt h2) (Nat.lt_of_le_of_lt (Nat.zero_le _) h2)
theorem carry_in {a b i k X c : Nat} (h : X + c * 65536 ^ k = a % 65536 ^ (i + 1) * b) (hc : 0 < c) : k < i + 1 + dl b := by
  have h1 := row_lt a b i
  have h2 : 65536 ^ k ≤ c * 65536 ^ k := Nat.le_mul_of_pos_left _ hc
  rcases Nat.lt_or_ge k (i + 1 + dl b) with h3 | h3
  · exact h3
  · have := Nat.pow_le_pow_right (show 0 < 65536 by decide) h3; omega
theorem mul_lt (a b : Nat) : a * b < 65536 ^ (dl a + dl b + 1) := by
  have h1 := dl_lt a
  have h2 := dl_lt b
  have h3 : a * b < 65536 ^ dl a * 65536 ^ dl b := Nat.mul_lt_mul_of_lt_of_le h1 (Nat.le_of_lt h2) (Nat.lt_of_le_of_lt (Nat.zero_le _) h2)
  rw [Nat.pow_succ, Nat.pow_add]
  omega
theorem mul_end {a b X : Nat} (h : X = a % 65536 ^ dl a * b) : X = a * b := by
  rw [h, Nat.mod_eq_of_lt (dl_lt a)]
theorem dk_mul_lt (a b i j : Nat) : dk a i * dk b j ≤ 65535 * 65535 := Nat.mul_le_mul (by have := dk_lt a i; omega) (by have := dk_lt b j; omega)
end Go.Proofs.YtgblhjmnenmlkaaDoor
namespace Go.Proofs.YtgblhjmnenmlkaaDoor
open Go.RowKit
theorem dn_zeros (n : Nat) : dn n 0 = List.replicate n 0 := by
  induction n with
  | zero => rfl
  | succ n ih => simp [dn, ih, List.replicate_succ]
set_option maxHeartbeats 1000000 in
set_option maxRecDepth 100000 in
theorem mul_ev (a b : Nat) (ha : dl a ≤ 1000) (hb : dl b ≤ 1000) : Meets Tryd.prog 54 [.sl 500 0 (dl a) 1, .sl 501 0 (dl b) 1] [(500, some ⟨.aggI (dg a), 3, false⟩), (501, some ⟨.aggI (dg b), 3, false⟩)] (.sl 1000 0 (dl (a * b)) 1) [(1000, some ⟨.aggI (dg (a * b)), 3, true⟩)] := by
  refine meets_of_ev (nt := 81) Tryd.func54 rfl rfl (Nat.le_of_ble_eq_true rfl) ?_
  refine .seq ?_
  refine .region ?_
  refine .q (op_assign rfl) trivial rfl ?_
  refine .nil ?_
  show Ev _ _ _ _ _
  refine .seq ?_
  refine .region ?_
  refine .q (op_move rfl) trivial rfl ?_
  refine .q (op_len_sl Tryd.underlying49 rfl) trivial rfl ?_
  refine .q (op_move rfl) trivial rfl ?_
  refine .q (op_len_sl Tryd.underlying49 rfl) trivial rfl ?_
  refine .q (op_addI rfl rfl ⟨by first | omega | (simp only [AV.len]; omega) | (simp only [AV.len, List.length_set]; omega) | assumption | (simp [AV.len]; done), by first | omega | (simp only [AV.len]; omega) | (simp only [AV.len, List.length_set]; omega) | assumption | (simp [AV.len]; done)⟩) trivial rfl ?_
  refine .q (op_addI rfl rfl ⟨by first | omega | (simp only [AV.len]; omega) | (simp only [AV.len, List.length_set]; omega) | assumption | (simp [AV.len]; done), by first | omega | (simp only [AV.len]; omega) | (simp only [AV.len, List.length_set]; omega) | assumption | (simp [AV.len]; done)⟩) trivial rfl ?_
  refine .a (ap_make (n := (dl a + dl b + 1)) (c := .aggI (List.replicate (dl a + dl b + 1) 0)) Tryd.underlying49 inf3 rfl rfl (by omega) (by omega) (by first | omega | (simp only [AV.len]; omega) | (simp only [AV.len, List.length_set]; omega) | assumption | (simp [AV.len]; done)) (rel_zero3) rfl (by simp [AV.list, AV.parts])) trivial rfl ?_
  refine .q (op_assign rfl) trivial rfl ?_
  refine .nil ?_
  show Ev _ _ _ _ _
  refine .seq ?_
  refine .seq ?_
  refine .region ?_
  refine .q (op_move rfl) trivial rfl ?_
  refine .q (op_len_sl Tryd.underlying49 rfl) trivial rfl ?_
  refine .q (op_move rfl) trivial rfl ?_
  refine .nil ?_
  show Ev _ _ _ _ _
  refine .block ?_
  refine Ev.loop (ι := { i : Nat // i ≤ dl a }) (fun q => ⟨[(0, .sl 500 0 (dl a) 1), (1, .sl 501 0 (dl b) 1), (5, .sl 1000 0 (dl a + dl b + 1) 1), (20, .i64 ((dl a : Nat) : Int)), (21, .i64 ((q.1 : Nat) : Int))], [(500, some ⟨.aggI (dg a), 3, false⟩), (501, some ⟨.aggI (dg b), 3, false⟩), (1000, some ⟨.aggI (dn (dl a + dl b + 1) (a % 65536 ^ q.1 * b)), 3, true⟩)], 1008⟩) (fun q => dl a - q.1) ⟨0, Nat.zero_le _⟩ (StLe.mk [(1000, 1000)] rfl rfl ⟨⟨_, rfl, by first | rfl | (simp only [AV.ren]; congr 1; omega), rfl⟩, ⟨_, rfl, by first | rfl | (simp only [AV.ren]; congr 1; omega), rfl⟩, ⟨_, rfl, by first | rfl | (simp only [AV.ren]; congr 1; omega), rfl⟩, ⟨_, rfl, by first | rfl | (simp only [AV.ren]; congr 1; omega), rfl⟩, ⟨_, rfl, by first | rfl | (simp only [AV.ren]; congr 1; omega), rfl⟩, trivial⟩ ⟨⟨_, _, rfl, rfl, rfl, rfl, id, rfl⟩, ⟨_, _, rfl, rfl, rfl, rfl, id, rfl⟩, ⟨_, _, rfl, rfl, by (show AV.aggI (List.replicate _ 0) = AV.aggI (dn _ (a % 65536 ^ 0 * b)); rw [Nat.pow_zero, Nat.mod_one, Nat.zero_mul, dn_zeros]), rfl, id, rfl⟩, trivial⟩) ?_
  rintro ⟨i, hi⟩
  try dsimp only
  have l1 := length_dg a
  have l2 := length_dg b
  refine .seq ?_
  refine .region ?_
  refine .q (op_cmpI rfl rfl rfl) trivial rfl ?_
  refine .nil ?_
  show Ev _ _ _ _ _
  refine .seq ?_
  refine .cond rfl (fun hc22 => ?_) (fun hc22 => ?_)
  · first | replace hc22 := of_decide_eq_true hc22 | replace hc22 := of_decide_eq_false hc22 | replace hc22 := eq_of_beq hc22 | replace hc22 := ne_of_beq_false hc22 | simp only [bne_iff_ne, ne_eq] at hc22 | simp only [bne_eq_false_iff_eq] at hc22
    refine .skip ?_
    show Ev _ _ _ _ _
    refine .seq ?_
    refine .block ?_
    refine .seq ?_
    refine .region ?_
    refine .q (op_move rfl) trivial rfl ?_
    refine .q (op_assign rfl) trivial rfl ?_
    refine .nil ?_
    show Ev _ _ _ _ _
    refine .seq ?_
    refine .region ?_
    refine .q (op_assign rfl) trivial rfl ?_
    refine .nil ?_
    show Ev _ _ _ _ _
    refine .seq ?_
    refine .seq ?_
    refine .region ?_
    refine .q (op_move rfl) trivial rfl ?_
    refine .q (op_len_sl Tryd.underlying49 rfl) trivial rfl ?_
    refine .q (op_move rfl) trivial rfl ?_
    refine .nil ?_
    show Ev _ _ _ _ _
    refine .block ?_
    refine Ev.loop (ι := { p : Nat × Nat × Nat // p.1 ≤ dl b ∧ p.2.2 < 65536 ∧ p.2.1 + p.2.2 * 65536 ^ (i + p.1) = a % 65536 ^ i * b + 65536 ^ i * (dk a i * (b % 65536 ^ p.1)) }) (fun q => ⟨[(0, .sl 500 0 (dl a) 1), (1, .sl 501 0 (dl b) 1), (5, .sl 1000 0 (dl a + dl b + 1) 1), (20, .i64 ((dl a : Nat) : Int)), (21, .i64 (i : Int)), (6, .i64 (i : Int)), (7, .i64 ((q.1.2.2 : Nat) : Int)), (25, .i64 ((dl b : Nat) : Int)), (26, .i64 ((q.1.1 : Nat) : Int))], [(500, some ⟨.aggI (dg a), 3, false⟩), (501, some ⟨.aggI (dg b), 3, false⟩), (1000, some ⟨.aggI (dn (dl a + dl b + 1) (q.1.2.1)), 3, true⟩)], 1008⟩) (fun q => dl b - q.1.1) ⟨(0, a % 65536 ^ i * b, 0), Nat.zero_le _, Nat.zero_lt_succ _, by simp [Nat.mod_one]⟩ (StLe.mk [(1000, 1000)] rfl rfl ⟨⟨_, rfl, by first | rfl | (simp only [AV.ren]; congr 1; omega), rfl⟩, ⟨_, rfl, by first | rfl | (simp only [AV.ren]; congr 1; omega), rfl⟩, ⟨_, rfl, by first | rfl | (simp only [AV.ren]; congr 1; omega), rfl⟩, ⟨_, rfl, by first | rfl | (simp only [AV.ren]; congr 1; omega), rfl⟩, ⟨_, rfl, by first | rfl | (simp only [AV.ren]; congr 1; omega), rfl⟩, ⟨_, rfl, by first | rfl | (simp only [AV.ren]; congr 1; omega), rfl⟩, ⟨_, rfl, by first | rfl | (simp only [AV.ren]; congr 1; omega), rfl⟩, ⟨_, rfl, by first | rfl | (simp only [AV.ren]; congr 1; omega), rfl⟩, ⟨_, rfl, by first | rfl | (simp only [AV.ren]; congr 1; omega), rfl⟩, trivial⟩ ⟨⟨_, _, rfl, rfl, rfl, rfl, id, rfl⟩, ⟨_, _, rfl, rfl, rfl, rfl, id, rfl⟩, ⟨_, _, rfl, rfl, rfl, rfl, id, rfl⟩, trivial⟩) ?_
    rintro ⟨⟨j, X, c⟩, hj, hc, hX⟩
    try dsimp only
    replace hj : j ≤ dl b := hj
    replace hc : c < 65536 := hc
    replace hX : X + c * 65536 ^ (i + j) = a % 65536 ^ i * b + 65536 ^ i * (dk a i * (b % 65536 ^ j)) := hX
    have hG : j < dl b → (dn (dl a + dl b + 1) X).getD (i + j) 0 = (dk X (i + j) : Int) := fun h => dn_getk _ _ _ (by omega)
    have hA : (dg a).getD i 0 = (dk a i : Int) := dn_getk _ _ _ (by omega)
    have hB : j < dl b → (dg b).getD j 0 = (dk b j : Int) := fun h => dn_getk _ _ _ h
    have hm := dk_mul_lt a b i j
    have d1 := dk_lt X (i + j)
    have hl := length_dn (dl a + dl b + 1) X
    refine .seq ?_
    refine .region ?_
    refine .q (op_cmpI rfl rfl rfl) trivial rfl ?_
    refine .nil ?_
    show Ev _ _ _ _ _
    refine .seq ?_
    refine .cond rfl (fun hc27 => ?_) (fun hc27 => ?_)
    · first | replace hc27 := of_decide_eq_true hc27 | replace hc27 := of_decide_eq_false hc27 | replace hc27 := eq_of_beq hc27 | replace hc27 := ne_of_beq_false hc27 | simp only [bne_iff_ne, ne_eq] at hc27 | simp only [bne_eq_false_iff_eq] at hc27
      refine .skip ?_
      show Ev _ _ _ _ _
      refine .seq ?_
      refine .block ?_
      refine .seq ?_
      refine .region ?_
      refine .q (op_move rfl) trivial rfl ?_
      refine .q (op_assign rfl) trivial rfl ?_
      refine .nil ?_
      show Ev _ _ _ _ _
      refine .seq ?_
      refine .drawn [[], [], [], [1, 2], [0, 1, 2, 3], [0, 1, 2, 3, 4], [], [], [6, 7], [6, 7, 8], [], [], [10, 11], [10, 11, 12], [6, 7, 8, 9, 10, 11, 12, 13], [0, 1, 2, 3, 4, 5, 6, 7, 8, 9, 10, 11, 12, 13, 14], [], [0, 1, 2, 3, 4, 5, 6, 7, 8, 9, 10, 11, 12, 13, 14, 15, 16], [0, 1, 2, 3, 4, 5, 6, 7, 8, 9, 10, 11, 12, 13, 14, 15, 16, 17]] [5, 9, 13] [] (by kernel_rfl) (by kernel_rfl) rfl ?_
      show DK _ [0, 1, 2, 3, 4, 5, 6, 7, 8, 9, 10, 11, 12, 13, 14, 15, 16, 17, 18] _ _ _
      refine .q rfl (op_move rfl) trivial ?_
      refine .q rfl (op_move rfl) trivial ?_
      refine .q rfl (op_move rfl) trivial ?_
      refine .q rfl (op_addI rfl rfl ⟨by first | omega | (simp only [AV.len]; omega) | (simp only [AV.len, List.length_set]; omega) | assumption | (simp [AV.len]; done), by first | omega | (simp only [AV.len]; omega) | (simp only [AV.len, List.length_set]; omega) | assumption | (simp [AV.len]; done)⟩) trivial ?_
      refine .q rfl (ap_idx0 Tryd.underlying49 inf3.sz rfl rfl (i := i + j) (by omega) (by omega)) trivial ?_
      refine .q rfl (op_load Tryd.underlying3 rfl rfl rfl rfl (by simp only [AV.len]; omega)) trivial ?_
      refine .as (.i64 (dk X (i + j) : Int)) (congrArg AV.i64 (hG (by omega))) ?_
      refine .q rfl (op_move rfl) trivial ?_
      refine .q rfl (op_move rfl) trivial ?_
      refine .q rfl (ap_idx0 Tryd.underlying49 inf3.sz rfl rfl rfl (by omega)) trivial ?_
      refine .q rfl (op_load Tryd.underlying3 rfl rfl rfl rfl (by simp only [AV.len]; omega)) trivial ?_
      refine .as (.i64 (dk a i : Int)) (congrArg AV.i64 hA) ?_
      refine .q rfl (op_move rfl) trivial ?_
      refine .q rfl (op_move rfl) trivial ?_
      refine .q rfl (ap_idx0 Tryd.underlying49 inf3.sz rfl rfl rfl (by first | omega | (simp only [AV.len]; omega) | (simp only [AV.len, List.length_set]; omega) | assumption | (simp [AV.len]; done))) trivial ?_
      refine .q rfl (op_load Tryd.underlying3 rfl rfl rfl rfl (by simp only [AV.len]; omega)) trivial ?_
      refine .as (.i64 (dk b j : Int)) (congrArg AV.i64 (hB (by omega))) ?_
      refine .q rfl (op_mulI rfl rfl ⟨by rw [← Int.natCast_mul]; omega, by rw [← Int.natCast_mul]; omega⟩) trivial ?_
      refine .as (.i64 ((dk a i * dk b j : Nat) : Int)) (congrArg AV.i64 (Int.natCast_mul _ _).symm) ?_
      refine .q rfl (op_addI rfl rfl ⟨by first | omega | (simp only [AV.len]; omega) | (simp only [AV.len, List.length_set]; omega) | assumption | (simp [AV.len]; done), by first | omega | (simp only [AV.len]; omega) | (simp only [AV.len, List.length_set]; omega) | assumption | (simp [AV.len]; done)⟩) trivial ?_
      refine .q rfl (op_move rfl) trivial ?_
      refine .q rfl (op_addI rfl rfl ⟨by first | omega | (simp only [AV.len]; omega) | (simp only [AV.len, List.length_set]; omega) | assumption | (simp [AV.len]; done), by first | omega | (simp only [AV.len]; omega) | (simp only [AV.len, List.length_set]; omega) | assumption | (simp [AV.len]; done)⟩) trivial ?_
      refine .as (.i64 (((dk X (i + j) + dk a i * dk b j + c) : Nat) : Int)) (congrArg AV.i64 (by omega)) ?_
      refine .q rfl (op_assign rfl) trivial ?_
      refine .nil ?_
      show Ev _ _ _ _ _
      refine .seq ?_
      refine .region ?_
      refine .q (op_move rfl) trivial rfl ?_
      refine .q (op_move rfl) trivial rfl ?_
      refine .q (op_move rfl) trivial rfl ?_
      refine .q (op_addI rfl rfl ⟨by first | omega | (simp only [AV.len]; omega) | (simp only [AV.len, List.length_set]; omega) | assumption | (simp [AV.len]; done), by first | omega | (simp only [AV.len]; omega) | (simp only [AV.len, List.length_set]; omega) | assumption | (simp [AV.len]; done)⟩) trivial rfl ?_
      refine .q (op_move rfl) trivial rfl ?_
      refine .q (op_remI rfl rfl ⟨by first | omega | (simp only [AV.len]; omega) | (simp only [AV.len, List.length_set]; omega) | assumption | (simp [AV.len]; done), by first | omega | (simp only [AV.len]; omega) | (simp only [AV.len, List.length_set]; omega) | assumption | (simp [AV.len]; done)⟩) trivial rfl ?_
      refine .as (.i64 (((dk X (i + j) + dk a i * dk b j + c) % 65536 : Nat) : Int)) (congrArg AV.i64 (by omega)) ?_
      refine .q (ap_idx0 Tryd.underlying49 inf3.sz rfl rfl (i := i + j) (by omega) (by omega)) trivial rfl ?_
      refine .w (op_store inf3.sz rfl rfl rfl rfl rfl (by simp only [AV.len]; omega)) trivial rfl ?_
      refine .asH (.aggI (dn (dl a + dl b + 1) (sd X (i + j) ((dk X (i + j) + dk a i * dk b j + c) % 65536)))) (congrArg AV.aggI (dn_set _ _ _ _ (by omega) (Nat.mod_lt _ (by decide)))) ?_
      refine .nil ?_
      show Ev _ _ _ _ _
      refine .region ?_
      refine .q (op_move rfl) trivial rfl ?_
      refine .q (op_quoI rfl rfl ⟨by first | omega | (simp only [AV.len]; omega) | (simp only [AV.len, List.length_set]; omega) | assumption | (simp [AV.len]; done), ⟨by first | omega | (simp only [AV.len]; omega) | (simp only [AV.len, List.length_set]; omega) | assumption | (simp [AV.len]; done), by first | omega | (simp only [AV.len]; omega) | (simp only [AV.len, List.length_set]; omega) | assumption | (simp [AV.len]; done)⟩, by first | omega | (simp only [AV.len]; omega) | (simp only [AV.len, List.length_set]; omega) | assumption | (simp [AV.len]; done)⟩) trivial rfl ?_
      refine .as (.i64 (((dk X (i + j) + dk a i * dk b j + c) / 65536 : Nat) : Int)) (congrArg AV.i64 (by omega)) ?_
      refine .q (op_assign rfl) trivial rfl ?_
      refine .nil ?_
      show Ev _ _ _ _ _
      refine .region ?_
      refine .q (op_addI rfl rfl ⟨by first | omega | (simp only [AV.len]; omega) | (simp only [AV.len, List.length_set]; omega) | assumption | (simp [AV.len]; done), by first | omega | (simp only [AV.len]; omega) | (simp only [AV.len, List.length_set]; omega) | assumption | (simp [AV.len]; done)⟩) trivial rfl ?_
      refine .q (op_move rfl) trivial rfl ?_
      refine .nil ?_
      exact ⟨⟨(j + 1, sd X (i + j) ((dk X (i + j) + dk a i * dk b j + c) % 65536), (dk X (i + j) + dk a i * dk b j + c) / 65536), by show j + 1 ≤ dl b; omega, by show (dk X (i + j) + dk a i * dk b j + c) / 65536 < 65536; omega, mul_step hX _ rfl⟩, by (try dsimp only); omega, StLe.mk [(1000, 1000)] rfl rfl ⟨⟨_, rfl, by first | rfl | (simp only [AV.ren]; congr 1; omega), rfl⟩, ⟨_, rfl, by first | rfl | (simp only [AV.ren]; congr 1; omega), rfl⟩, ⟨_, rfl, by first | rfl | (simp only [AV.ren]; congr 1; omega), rfl⟩, ⟨_, rfl, by first | rfl | (simp only [AV.ren]; congr 1; omega), rfl⟩, ⟨_, rfl, by first | rfl | (simp only [AV.ren]; congr 1; omega), rfl⟩, ⟨_, rfl, by first | rfl | (simp only [AV.ren]; congr 1; omega), rfl⟩, ⟨_, rfl, by first | rfl | (simp only [AV.ren]; congr 1; omega), rfl⟩, ⟨_, rfl, by first | rfl | (simp only [AV.ren]; congr 1; omega), rfl⟩, ⟨_, rfl, by first | rfl | (simp only [AV.ren]; congr 1; omega), rfl⟩, trivial⟩ ⟨⟨_, _, rfl, rfl, rfl, rfl, id, rfl⟩, ⟨_, _, rfl, rfl, rfl, rfl, id, rfl⟩, ⟨_, _, rfl, rfl, rfl, rfl, id, rfl⟩, trivial⟩⟩
    · first | replace hc27 := of_decide_eq_true hc27 | replace hc27 := of_decide_eq_false hc27 | replace hc27 := eq_of_beq hc27 | replace hc27 := ne_of_beq_false hc27 | simp only [bne_iff_ne, ne_eq] at hc27 | simp only [bne_eq_false_iff_eq] at hc27
      refine .exit ?_
      show Ev _ _ _ _ _
      refine .seq ?_
      refine .region ?_
      refine .q (op_move rfl) trivial rfl ?_
      refine .q (op_move rfl) trivial rfl ?_
      refine .q (op_len_sl Tryd.underlying49 rfl) trivial rfl ?_
      refine .q (op_addI rfl rfl ⟨by first | omega | (simp only [AV.len]; omega) | (simp only [AV.len, List.length_set]; omega) | assumption | (simp [AV.len]; done), by first | omega | (simp only [AV.len]; omega) | (simp only [AV.len, List.length_set]; omega) | assumption | (simp [AV.len]; done)⟩) trivial rfl ?_
      refine .q (op_assign rfl) trivial rfl ?_
      refine .nil ?_
      show Ev _ _ _ _ _
      refine .block ?_
      refine Ev.loop (ι := { p : Nat × Nat × Nat // i + dl b ≤ p.1 ∧ p.2.2 < 65536 ∧ p.2.1 + p.2.2 * 65536 ^ p.1 = a % 65536 ^ (i + 1) * b }) (fun q => ⟨[(0, .sl 500 0 (dl a) 1), (1, .sl 501 0 (dl b) 1), (5, .sl 1000 0 (dl a + dl b + 1) 1), (20, .i64 ((dl a : Nat) : Int)), (21, .i64 (i : Int)), (7, .i64 ((q.1.2.2 : Nat) : Int)), (10, .i64 ((q.1.1 : Nat) : Int))], [(500, some ⟨.aggI (dg a), 3, false⟩), (501, some ⟨.aggI (dg b), 3, false⟩), (1000, some ⟨.aggI (dn (dl a + dl b + 1) (q.1.2.1)), 3, true⟩)], 1008⟩) (fun q => dl a + dl b + 1 - q.1.1) ⟨(i + dl b, X, c), Nat.le_refl _, hc, mul_row (by rw [show dl b = j by omega]; exact hX)⟩ (StLe.mk [(1000, 1000)] rfl rfl ⟨⟨_, rfl, by first | rfl | (simp only [AV.ren]; congr 1; omega), rfl⟩, ⟨_, rfl, by first | rfl | (simp only [AV.ren]; congr 1; omega), rfl⟩, ⟨_, rfl, by first | rfl | (simp only [AV.ren]; congr 1; omega), rfl⟩, ⟨_, rfl, by first | rfl | (simp only [AV.ren]; congr 1; omega), rfl⟩, ⟨_, rfl, by first | rfl | (simp only [AV.ren]; congr 1; omega), rfl⟩, ⟨_, rfl, by first | rfl | (simp only [AV.ren]; congr 1; omega), rfl⟩, ⟨_, rfl, by first | rfl | (simp only [AV.ren]; congr 1; omega), rfl⟩, trivial⟩ ⟨⟨_, _, rfl, rfl, rfl, rfl, id, rfl⟩, ⟨_, _, rfl, rfl, rfl, rfl, id, rfl⟩, ⟨_, _, rfl, rfl, rfl, rfl, id, rfl⟩, trivial⟩) ?_
      rintro ⟨⟨k, Y, d⟩, hk, hd, hY⟩
      try dsimp only
      replace hk : i + dl b ≤ k := hk
      replace hd : d < 65536 := hd
      replace hY : Y + d * 65536 ^ k = a % 65536 ^ (i + 1) * b := hY
      have hin : 0 < d → k < i + 1 + dl b := carry_in hY
      have hn : sd Y k ((dk Y k + d) % 65536) + (dk Y k + d) / 65536 * 65536 ^ (k + 1) = a % 65536 ^ (i + 1) * b := by rw [carry_step hY 0 (dk Y k + d) (by omega), Nat.zero_mul, Nat.add_zero]
      have hG2 : 0 < d → (dn (dl a + dl b + 1) Y).getD k 0 = (dk Y k : Int) := fun h => dn_getk _ _ _ (by have := hin h; omega)
      have d2 := dk_lt Y k
      have hl2 := length_dn (dl a + dl b + 1) Y
      refine .seq ?_
      refine .seq ?_
      refine .region ?_
      refine .q (op_move rfl) trivial rfl ?_
      refine .q (op_cmpI rfl rfl rfl) trivial rfl ?_
      refine .nil ?_
      show Ev _ _ _ _ _
      refine .cond rfl (fun hc62 => ?_) (fun hc62 => ?_)
      · first | replace hc62 := of_decide_eq_true hc62 | replace hc62 := of_decide_eq_false hc62 | replace hc62 := eq_of_beq hc62 | replace hc62 := ne_of_beq_false hc62 | simp only [bne_iff_ne, ne_eq] at hc62 | simp only [bne_eq_false_iff_eq] at hc62
        refine .skip ?_
        show Ev _ _ _ _ _
        refine .seq ?_
        refine .block ?_
        refine .seq ?_
        refine .region ?_
        refine .q (op_move rfl) trivial rfl ?_
        refine .q (op_move rfl) trivial rfl ?_
        refine .q (ap_idx0 Tryd.underlying49 inf3.sz rfl rfl rfl (by omega)) trivial rfl ?_
        refine .q (op_load Tryd.underlying3 rfl rfl rfl rfl (by simp only [AV.len]; omega)) trivial rfl ?_
        refine .as (.i64 (dk Y k : Int)) (congrArg AV.i64 (hG2 (by omega))) ?_
        refine .q (op_move rfl) trivial rfl ?_
        refine .q (op_addI rfl rfl ⟨by first | omega | (simp only [AV.len]; omega) | (simp only [AV.len, List.length_set]; omega) | assumption | (simp [AV.len]; done), by first | omega | (simp only [AV.len]; omega) | (simp only [AV.len, List.length_set]; omega) | assumption | (simp [AV.len]; done)⟩) trivial rfl ?_
        refine .as (.i64 (((dk Y k + d) : Nat) : Int)) (congrArg AV.i64 (by omega)) ?_
        refine .q (op_assign rfl) trivial rfl ?_
        refine .nil ?_
        show Ev _ _ _ _ _
        refine .seq ?_
        refine .region ?_
        refine .q (op_move rfl) trivial rfl ?_
        refine .q (op_move rfl) trivial rfl ?_
        refine .q (op_move rfl) trivial rfl ?_
        refine .q (op_remI rfl rfl ⟨by first | omega | (simp only [AV.len]; omega) | (simp only [AV.len, List.length_set]; omega) | assumption | (simp [AV.len]; done), by first | omega | (simp only [AV.len]; omega) | (simp only [AV.len, List.length_set]; omega) | assumption | (simp [AV.len]; done)⟩) trivial rfl ?_
        refine .as (.i64 (((dk Y k + d) % 65536 : Nat) : Int)) (congrArg AV.i64 (by omega)) ?_
        refine .q (ap_idx0 Tryd.underlying49 inf3.sz rfl rfl rfl (by omega)) trivial rfl ?_
        refine .w (op_store inf3.sz rfl rfl rfl rfl rfl (by simp only [AV.len]; omega)) trivial rfl ?_
        refine .asH (.aggI (dn (dl a + dl b + 1) (sd Y k ((dk Y k + d) % 65536)))) (congrArg AV.aggI (dn_set _ _ _ _ (by omega) (Nat.mod_lt _ (by decide)))) ?_
        refine .nil ?_
        show Ev _ _ _ _ _
        refine .region ?_
        refine .q (op_move rfl) trivial rfl ?_
        refine .q (op_quoI rfl rfl ⟨by first | omega | (simp only [AV.len]; omega) | (simp only [AV.len, List.length_set]; omega) | assumption | (simp [AV.len]; done), ⟨by first | omega | (simp only [AV.len]; omega) | (simp only [AV.len, List.length_set]; omega) | assumption | (simp [AV.len]; done), by first | omega | (simp only [AV.len]; omega) | (simp only [AV.len, List.length_set]; omega) | assumption | (simp [AV.len]; done)⟩, by first | omega | (simp only [AV.len]; omega) | (simp only [AV.len, List.length_set]; omega) | assumption | (simp [AV.len]; done)⟩) trivial rfl ?_
        refine .as (.i64 (((dk Y k + d) / 65536 : Nat) : Int)) (congrArg AV.i64 (by omega)) ?_
        refine .q (op_assign rfl) trivial rfl ?_
        refine .nil ?_
        show Ev _ _ _ _ _
        refine .region ?_
        refine .q (op_move rfl) trivial rfl ?_
        refine .q (op_addI rfl rfl ⟨by first | omega | (simp only [AV.len]; omega) | (simp only [AV.len, List.length_set]; omega) | assumption | (simp [AV.len]; done), by first | omega | (simp only [AV.len]; omega) | (simp only [AV.len, List.length_set]; omega) | assumption | (simp [AV.len]; done)⟩) trivial rfl ?_
        refine .q (op_assign rfl) trivial rfl ?_
        refine .nil ?_
        exact ⟨⟨(k + 1, sd Y k ((dk Y k + d) % 65536), (dk Y k + d) / 65536), by show i + dl b ≤ k + 1; omega, by show (dk Y k + d) / 65536 < 65536; omega, hn⟩, by (try dsimp only); omega, StLe.mk [(1000, 1000)] rfl rfl ⟨⟨_, rfl, by first | rfl | (simp only [AV.ren]; congr 1; omega), rfl⟩, ⟨_, rfl, by first | rfl | (simp only [AV.ren]; congr 1; omega), rfl⟩, ⟨_, rfl, by first | rfl | (simp only [AV.ren]; congr 1; omega), rfl⟩, ⟨_, rfl, by first | rfl | (simp only [AV.ren]; congr 1; omega), rfl⟩, ⟨_, rfl, by first | rfl | (simp only [AV.ren]; congr 1; omega), rfl⟩, ⟨_, rfl, by first | rfl | (simp only [AV.ren]; congr 1; omega), rfl⟩, ⟨_, rfl, by first | rfl | (simp only [AV.ren]; congr 1; omega), rfl⟩, trivial⟩ ⟨⟨_, _, rfl, rfl, rfl, rfl, id, rfl⟩, ⟨_, _, rfl, rfl, rfl, rfl, id, rfl⟩, ⟨_, _, rfl, rfl, rfl, rfl, id, rfl⟩, trivial⟩⟩
      · first | replace hc62 := of_decide_eq_true hc62 | replace hc62 := of_decide_eq_false hc62 | replace hc62 := eq_of_beq hc62 | replace hc62 := ne_of_beq_false hc62 | simp only [bne_iff_ne, ne_eq] at hc62 | simp only [bne_eq_false_iff_eq] at hc62
        refine .exit ?_
        show Ev _ _ _ _ _
        refine .region ?_
        refine .q (op_addI rfl rfl ⟨by first | omega | (simp only [AV.len]; omega) | (simp only [AV.len, List.length_set]; omega) | assumption | (simp [AV.len]; done), by first | omega | (simp only [AV.len]; omega) | (simp only [AV.len, List.length_set]; omega) | assumption | (simp [AV.len]; done)⟩) trivial rfl ?_
        refine .q (op_move rfl) trivial rfl ?_
        refine .nil ?_
        exact ⟨⟨i + 1, by omega⟩, by (try dsimp only); omega, StLe.mk [(1000, 1000)] rfl rfl ⟨⟨_, rfl, by first | rfl | (simp only [AV.ren]; congr 1; omega), rfl⟩, ⟨_, rfl, by first | rfl | (simp only [AV.ren]; congr 1; omega), rfl⟩, ⟨_, rfl, by first | rfl | (simp only [AV.ren]; congr 1; omega), rfl⟩, ⟨_, rfl, by first | rfl | (simp only [AV.ren]; congr 1; omega), rfl⟩, ⟨_, rfl, by first | rfl | (simp only [AV.ren]; congr 1; omega), rfl⟩, trivial⟩ ⟨⟨_, _, rfl, rfl, rfl, rfl, id, rfl⟩, ⟨_, _, rfl, rfl, rfl, rfl, id, rfl⟩, ⟨_, _, rfl, rfl, by (simp only [AV.ren]; rw [show a % 65536 ^ (i + 1) * b = Y by rw [← hY, show d = 0 by omega, Nat.zero_mul, Nat.add_zero]]), rfl, id, rfl⟩, trivial⟩⟩
  · first | replace hc22 := of_decide_eq_true hc22 | replace hc22 := of_decide_eq_false hc22 | replace hc22 := eq_of_beq hc22 | replace hc22 := ne_of_beq_false hc22 | simp only [bne_iff_ne, ne_eq] at hc22 | simp only [bne_eq_false_iff_eq] at hc22
    refine .exit ?_
    show Ev _ _ _ _ _
    refine .seq ?_
    refine .region ?_
    refine .q (op_move rfl) trivial rfl ?_
    refine .q (op_call (U := []) [(500, 1000)] [] (trim_dn (dl a + dl b + 1) (a % 65536 ^ i * b) (by rw [show a % 65536 ^ i * b = a * b by rw [show i = dl a by omega, Nat.mod_eq_of_lt (dl_lt a)]]; exact mul_lt a b) (by omega)) Tryd.func87 (by kernel_rfl) rfl rfl rfl (⟨⟨_, rfl, rfl, rfl⟩, trivial⟩) (⟨⟨_, _, rfl, rfl, rfl, rfl, (fun h => by cases h), rfl⟩, trivial⟩) (trivial) (⟨(fun h => by cases h), trivial⟩) rfl) trivial rfl ?_
    refine .q (op_assign rfl) trivial rfl ?_
    refine .nil ?_
    show Ev _ _ _ _ _
    refine Ev.pre (H2 := [(1000, some ⟨.aggI (dg (a * b)), 3, true⟩)]) ⟨⟨.aggI (dn (dl a + dl b + 1) (a % 65536 ^ i * b)), dl (a * b), rfl, (by rw [show a % 65536 ^ i * b = a * b by rw [show i = dl a by omega, Nat.mod_eq_of_lt (dl_lt a)]]; exact pre_dn (dl a + dl b + 1) (a * b) (dl_le (mul_lt a b)))⟩, trivial⟩ ?_
    refine .ret ?_
    show RetOk _ _ _ _ _ _ _
    exact ret1v rfl (.inl rfl) rfl (by rw [show a % 65536 ^ i * b = a * b by rw [show i = dl a by omega, Nat.mod_eq_of_lt (dl_lt a)]]; rfl) ⟨rfl, trivial⟩
end Go.Proofs.YtgblhjmnenmlkaaDoor
namespace Go.Proofs.YtgblhjmnenmlkaaDoor
open Go.RowKit
theorem dl_mono2 {a b : Nat} (h : a ≤ b) : dl a ≤ dl b := dl_le (Nat.lt_of_le_of_lt h (dl_lt b))
theorem low_eq (a n : Nat) : a - a / 2 ^ n * 2 ^ n = a % 2 ^ n := by
  have := Nat.div_add_mod a (2 ^ n)
  rw [Nat.mul_comm] at this
  omega
set_option maxRecDepth 100000 in
theorem low_ev (a n : Nat) (ha : dl a ≤ 1000) (hn : n ≤ 1000) : Meets Tryd.prog 57 [.sl 500 0 (dl a) 1, .i64 (n : Int)] [(500, some ⟨.aggI (dg a), 3, false⟩)] (.sl 1000 0 (dl (a % 2 ^ n)) 1) [(1000, some ⟨.aggI (dg (a % 2 ^ n)), 3, true⟩)] := by
  refine meets_of_ev (nt := 13) Tryd.func57 rfl rfl (Nat.le_of_ble_eq_true rfl) ?_
  refine .seq ?_
  refine .region ?_
  refine .q (op_assign rfl) trivial rfl ?_
  refine .nil ?_
  show Ev _ _ _ _ _
  refine .seq ?_
  refine .region ?_
  refine .q (op_move rfl) trivial rfl ?_
  refine .q (op_move rfl) trivial rfl ?_
  refine .q (op_move rfl) trivial rfl ?_
  refine .a (op_call (U := [(1000, some ⟨.aggI (dg (a / 2 ^ n)), 3, true⟩)]) [(500, 500)] [(1000, 1000)] (half_ev a n ha (by omega)) Tryd.func58 (by kernel_rfl) rfl rfl rfl (⟨⟨_, rfl, rfl, rfl⟩, ⟨_, rfl, rfl, rfl⟩, trivial⟩) (⟨⟨_, _, rfl, rfl, rfl, rfl, (fun h => by cases h), rfl⟩, trivial⟩) (⟨⟨1000, _, rfl, rfl, rfl, rfl, .inl rfl⟩, trivial⟩) (⟨(fun h => by cases h), trivial⟩) rfl) trivial rfl ?_
  refine .q (op_move rfl) trivial rfl ?_
  refine .a (op_call (U := [(1008, some ⟨.aggI (dg (2 ^ n)), 3, true⟩)]) [] [(1008, 1000)] (power_ev n (by omega)) Tryd.func52 (by kernel_rfl) rfl rfl rfl (⟨⟨_, rfl, rfl, rfl⟩, trivial⟩) (trivial) (⟨⟨1000, _, rfl, rfl, rfl, rfl, .inl rfl⟩, trivial⟩) (trivial) rfl) trivial rfl ?_
  refine .a (op_call (U := [(1016, some ⟨.aggI (dg (a / 2 ^ n * 2 ^ n)), 3, true⟩)]) [(500, 1000), (501, 1008)] [(1016, 1000)] (mul_ev (a / 2 ^ n) (2 ^ n) (by have := dl_mono2 (Nat.div_le_self a (2 ^ n)); omega) (by rw [dl_pow]; omega)) Tryd.func54 (by kernel_rfl) rfl rfl rfl (⟨⟨_, rfl, rfl, rfl⟩, ⟨_, rfl, rfl, rfl⟩, trivial⟩) (⟨⟨_, _, rfl, rfl, rfl, rfl, (fun h => by cases h), rfl⟩, ⟨_, _, rfl, rfl, rfl, rfl, (fun h => by cases h), rfl⟩, trivial⟩) (⟨⟨1000, _, rfl, rfl, rfl, rfl, .inl rfl⟩, trivial⟩) (⟨(fun h => by cases h), (fun h => by cases h), trivial⟩) rfl) trivial rfl ?_
  refine .a (op_call (U := [(1024, some ⟨.aggI (dg (a - a / 2 ^ n * 2 ^ n)), 3, true⟩)]) [(500, 500), (501, 1016)] [(1024, 1000)] (sub_ev a (a / 2 ^ n * 2 ^ n) (Nat.div_mul_le_self _ _) ha (by have := dl_mono2 (Nat.div_mul_le_self a (2 ^ n)); omega)) Tryd.func51 (by kernel_rfl) rfl rfl rfl (⟨⟨_, rfl, rfl, rfl⟩, ⟨_, rfl, rfl, rfl⟩, trivial⟩) (⟨⟨_, _, rfl, rfl, rfl, rfl, (fun h => by cases h), rfl⟩, ⟨_, _, rfl, rfl, rfl, rfl, (fun h => by cases h), rfl⟩, trivial⟩) (⟨⟨1000, _, rfl, rfl, rfl, rfl, .inl rfl⟩, trivial⟩) (⟨(fun h => by cases h), (fun h => by cases h), trivial⟩) rfl) trivial rfl ?_
  refine .q (op_assign rfl) trivial rfl ?_
  refine .nil ?_
  show Ev _ _ _ _ _
  refine Ev.weak (st2 := ⟨[(4, .sl 1000 0 (dl (a % 2 ^ n)) 1)], [(1000, some ⟨.aggI (dg (a % 2 ^ n)), 3, true⟩)], 1008⟩) (StLe.mk [(1000, 1024)] rfl rfl ⟨⟨_, rfl, by (show AV.sl 1000 0 (dl (a - a / 2 ^ n * 2 ^ n)) 1 = _; rw [low_eq]), rfl⟩, trivial⟩ ⟨⟨_, _, rfl, rfl, by (show AV.aggI (dg (a - a / 2 ^ n * 2 ^ n)) = AV.aggI (dg (a % 2 ^ n)); rw [low_eq]), rfl, id, rfl⟩, trivial⟩) ?_
  refine .ret ?_
  show RetOk _ _ _ _ _ _ _
  exact ret1v rfl (.inl rfl) rfl rfl ⟨rfl, trivial⟩
end Go.Proofs.YtgblhjmnenmlkaaDoor
