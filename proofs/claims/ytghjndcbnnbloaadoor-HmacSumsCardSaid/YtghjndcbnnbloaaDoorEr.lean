/-
  The reference's schedule, rounds, blocks and digest are those of the hashes. Nothing of the program is named here.
-/
import Derived.Test.YtghjndcbnnbloaaDoorEq
namespace Go.Proofs.YtghjndcbnnbloaaDoor
theorem rsch64_words (bs : List UInt8) : ∀ t, t ≤ 16 → rsch64 bs t = words64 bs t := by
  intro t
  induction t with
  | zero => intro _; rfl
  | succ t ih =>
    intro h
    rw [rsch64, ih (by omega), words64_succ, if_pos (by omega), rcut64, rbe_be64, Nat.mul_comm]
theorem rsch64_sched (bs : List UInt8) (n : Nat) : rsch64 bs (16 + n) = sched64 (words64 bs 16) n := by
  induction n with
  | zero => exact rsch64_words bs 16 (Nat.le_refl _)
  | succ n ih =>
    show rsch64 bs (16 + n + 1) = _
    rw [rsch64, ih, if_neg (by omega), rcut64]
    rw [sched64, schedStep64, rnext64]
    generalize sched64 (words64 bs 16) n = L
    rw [rthree64_t, rthree64_t, show 16 + n - 2 = n + 14 by omega, show 16 + n - 7 = n + 9 by omega, show 16 + n - 15 = n + 1 by omega, show 16 + n - 16 = n by omega]
    rfl
theorem rround64_step (ws : List UInt64) (s : St64) (t : Nat) : rround64 ws s t = stepSt64 s (bigE0_64 s.v0) (bigE1_64 s.v4) (K512.getD t 0 + ws.getD t 0) := by
  unfold rround64 stepSt64
  rw [rthree64_f, rthree64_f]
  simp only [rcut64, UInt64.add_assoc]
  rfl
theorem rrounds64_eq (ws : List UInt64) (s : St64) (t : Nat) : rrounds64 ws s t = rounds64 ws s t := by
  induction t with
  | zero => rfl
  | succ t ih => rw [rrounds64, ih, rround64_step]; rfl
theorem rblock64_eq (s : St64) (bs : List UInt8) : rblock64 s bs = comp64 s bs := by
  unfold rblock64 comp64
  rw [rrounds64_eq, show (80 : Nat) = 16 + 64 from rfl, rsch64_sched]
  rfl
theorem rblocks64_eq (s : St64) (T : List UInt8) (k : Nat) : rblocks64 s T k = blocks64 s T k := by
  induction k with
  | zero => rfl
  | succ k ih => rw [rblocks64, ih, rblock64_eq]; rfl
theorem rdig64_eq (s : St64) : rdig64 s 8 = digest64 s := rfl
theorem rsum64_eq (T : List UInt8) : rsum64 T = sha512 T := by
  unfold rsum64 sha512
  rw [rblocks64_eq, rdig64_eq]
  rfl

def lift (s : St32) : St64 := { v0 := s.v0.toUInt64, v1 := s.v1.toUInt64, v2 := s.v2.toUInt64, v3 := s.v3.toUInt64, v4 := s.v4.toUInt64, v5 := s.v5.toUInt64, v6 := s.v6.toUInt64, v7 := s.v7.toUInt64 }
theorem getD_lift (l : List UInt32) (i : Nat) : (l.map UInt32.toUInt64).getD i 0 = (l.getD i 0).toUInt64 := by
  simp only [List.getD_eq_getElem?_getD, List.getElem?_map]
  cases l[i]? <;> rfl
theorem rsch32_words (bs : List UInt8) : ∀ t, t ≤ 16 → rsch32 bs t = (words32 bs t).map UInt32.toUInt64 := by
  intro t
  induction t with
  | zero => intro _; rfl
  | succ t ih =>
    intro h
    rw [rsch32, ih (by omega), words32_succ, if_pos (by omega), rcut32, rbe_be32, Nat.mul_comm, List.map_append]
    rfl
theorem rsch32_sched (bs : List UInt8) (n : Nat) : rsch32 bs (16 + n) = (sched32 (words32 bs 16) n).map UInt32.toUInt64 := by
  induction n with
  | zero => exact rsch32_words bs 16 (Nat.le_refl _)
  | succ n ih =>
    show rsch32 bs (16 + n + 1) = _
    rw [rsch32, ih, if_neg (by omega), rcut32]
    rw [sched32, schedStep32, rnext32]
    generalize sched32 (words32 bs 16) n = L
    rw [getD_lift, getD_lift, getD_lift, getD_lift, rthree32_t _ _ _ _ (by decide) (by decide) (by decide) (by decide) (by decide), rthree32_t _ _ _ _ (by decide) (by decide) (by decide) (by decide) (by decide), show 16 + n - 2 = n + 14 by omega, show 16 + n - 7 = n + 9 by omega, show 16 + n - 15 = n + 1 by omega, show 16 + n - 16 = n by omega]
    rw [List.map_append]
    simp only [UInt64.toUInt32_add, UInt32.toUInt32_toUInt64]
    rfl
theorem k_half : ∀ t, t < 64 → K512.getD t 0 / 4294967296 = (K256.getD t 0).toUInt64 := by decide +kernel
theorem rround32_step (ws : List UInt32) (s : St32) (t : Nat) (ht : t < 64) : rround32 (ws.map UInt32.toUInt64) (lift s) t = lift (stepSt32 s (bigE0_32 s.v0) (bigE1_32 s.v4) (K256.getD t 0 + ws.getD t 0)) := by
  unfold rround32 lift
  simp only []
  rw [rthree32_f _ _ _ _ (by decide) (by decide) (by decide) (by decide) (by decide) (by decide), rthree32_f _ _ _ _ (by decide) (by decide) (by decide) (by decide) (by decide) (by decide), k_half t ht, getD_lift]
  simp only [rcut32, UInt64.toUInt32_add, UInt64.toUInt32_xor, UInt64.toUInt32_and, UInt64.toUInt32_not, UInt32.toUInt32_toUInt64, UInt32.add_assoc, stepSt32, bigE0_32, bigE1_32, ch32, maj32]
theorem rrounds32_eq (ws : List UInt32) (s : St32) : ∀ t, t ≤ 64 → rrounds32 (ws.map UInt32.toUInt64) (lift s) t = lift (rounds32 ws s t) := by
  intro t
  induction t with
  | zero => intro _; rfl
  | succ t ih => intro h; rw [rrounds32, ih (by omega), rround32_step _ _ _ (by omega)]; rfl
theorem radd32_lift (s r : St32) : radd32 (lift s) (lift r) = lift (addSt32 s r) := by
  unfold radd32 lift addSt32
  simp only [rcut32, UInt64.toUInt32_add, UInt32.toUInt32_toUInt64]
theorem rblock32_eq (s : St32) (bs : List UInt8) : rblock32 (lift s) bs = lift (comp32 s bs) := by
  unfold rblock32 comp32
  rw [show rsch32 bs 64 = _ from rsch32_sched bs 48, rrounds32_eq _ _ _ (Nat.le_refl _), radd32_lift]
theorem rblocks32_eq (s : St32) (T : List UInt8) (k : Nat) : rblocks32 (lift s) T k = lift (blocks32 s T k) := by
  induction k with
  | zero => rfl
  | succ k ih => rw [rblocks32, ih, rblock32_eq]; rfl
theorem byte64_lift (u : UInt32) (k : Nat) (hk : k < 4) : byte64 u.toUInt64 k = byte32 u k := by
  unfold byte64 byte32
  rw [rshift32 u _ (by omega)]
  apply UInt8.toNat_inj.1
  rw [UInt64.toNat_toUInt8, UInt32.toNat_toUInt64, UInt32.toNat_toUInt8]
theorem stN64_lift (s : St32) (i : Nat) : stN64 (lift s) i = (stN32 s i).toUInt64 := by
  match i with
  | 0 => rfl
  | 1 => rfl
  | 2 => rfl
  | 3 => rfl
  | 4 => rfl
  | 5 => rfl
  | 6 => rfl
  | _ + 7 => rfl
theorem rdig32_eq (s : St32) : rdig32 (lift s) 8 = digest32 s := by
  have e : rdig32 (lift s) 8 = (List.range 32).map (fun j => byte64 (stN64 (lift s) (j / 4)) (3 - j % 4)) := rfl
  rw [e]
  unfold digest32
  apply List.map_congr_left
  intro j _
  rw [stN64_lift, byte64_lift _ _ (by omega)]
  rfl
theorem rstart32_eq : rstart32 = lift init32 := by
  unfold rstart32 lift init32
  rw [St64.mk.injEq]
  decide
theorem rsum32_eq (T : List UInt8) : rsum32 T = sha256 T := by
  unfold rsum32 sha256
  rw [rstart32_eq, rblocks32_eq, rdig32_eq]
end Go.Proofs.YtghjndcbnnbloaaDoor
