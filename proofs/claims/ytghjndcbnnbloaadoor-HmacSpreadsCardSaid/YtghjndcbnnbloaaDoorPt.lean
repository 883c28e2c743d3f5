/-
  Words written to bytes (putWord), walked.
-/
import Derived.Test.YtghjndcbnnbloaaDoorProg
import Derived.Test.YtghjndcbnnbloaaDoorM
import Derived.Test.YtghjndcbnnbloaaDoorSp
import Derived.WalkSpells
import Derived.WalkLawsBesides
import Derived.Deep.QuietTactic
import Derived.BigQuiet
import Derived.Lib.Hide
namespace Go.Proofs.YtghjndcbnnbloaaDoor
open Go.RowKit

attribute [local go_sem] and_n32 or_n32 xor_n32 not_n32 add_n32 add_n32' wrap_n32 and_n64 or_n64 xor_n64 not_n64 add_n64 add_n64' wrap_n64

/-- Byte k of a word, counted from the low end. -/
def byte32 (x : UInt32) (k : Nat) : UInt8 := (x >>> UInt32.ofNat (8 * k)).toUInt8
theorem byte32_eq (x : UInt32) (k : Nat) (h : k < 4) : IntKind.u8.wrap (n32 x / 2 ^ (8 * k)) = n8 (byte32 x k) := by
  rw [shr_n32 x (8 * k) (by omega), n8_of_n32]; rfl
def put32 (cs : Array Value) (o n : Nat) (x : UInt32) : Nat → Array Value
  | 0 => cs
  | k + 1 => (put32 cs o n x k).setIfInBounds (o + (n - 1 - k)) (U8 (byte32 x k))
theorem size_put32 (cs : Array Value) (o n : Nat) (x : UInt32) (k : Nat) : (put32 cs o n x k).size = cs.size := by
  induction k with
  | zero => rfl
  | succ k ih => simp [put32, ih]
theorem get_put32 (cs : Array Value) (o n : Nat) (x : UInt32) (hs : o + n ≤ cs.size) (i : Nat) : ∀ k, k ≤ n →
    (put32 cs o n x k)[i]? = if o + n - k ≤ i ∧ i < o + n then some (U8 (byte32 x (o + n - 1 - i))) else cs[i]? := by
  intro k
  induction k with
  | zero => intro _; rw [if_neg (by omega)]; rfl
  | succ k ih =>
    intro hk
    rw [put32, Array.getElem?_setIfInBounds, size_put32]
    by_cases h : o + (n - 1 - k) = i
    · rw [if_pos h, if_pos (by omega), if_pos (by omega), show o + n - 1 - i = k by omega]
    · rw [if_neg h, ih (by omega)]
      by_cases h2 : o + n - k ≤ i ∧ i < o + n
      · rw [if_pos h2, if_pos (by omega)]
      · rw [if_neg h2, if_neg (by omega)]

set_option maxHeartbeats 400000 in
theorem putWord32_any (b o n c : Nat) (t : TypeId) (cs : Array Value) (x : UInt32) (w : World) (hb : Blk w b t cs) (hn : n ≤ 4) (hs : o + n ≤ cs.size) :
    Calls Tryd.prog 27 #[.slice (some ⟨b, o, none⟩) n c, U32 x] w fun e w' => e = .returned (.tuple #[]) ∧ w.grownBy w' (some b) ∧ Blk w' b t (put32 cs o n x n) := by
  go_enter Tryd.func27, Tryd.ntmps27
  go_wp2
  go_loopw [7] (fun i wr => ∃ k : Nat, k ≤ n ∧ i = .int .i64 k ∧ w.grownBy wr (some b) ∧ Blk wr b t (put32 cs o n x k)) (fun i _ => n - (intOf i).toNat)
  case atStart => exact ⟨0, Nat.zero_le _, rfl, grown_refl _ _, hb⟩
  case round =>
    obtain ⟨k, hk, rfl, hg, hbk⟩ := hrel
    by_cases hlt : k < n
    · obtain ⟨u, hc⟩ : ∃ u, wr.cell? ⟨b, o + (n - 1 - k), none⟩ = some u := by
        rw [hbk.cell, Array.getElem?_eq_getElem (by rw [size_put32]; omega)]; exact ⟨_, rfl⟩
      have hf := hbk.frozen (o + (n - 1 - k))
      have hr := byte32_eq x k (by omega)
      have hm : min (8 * k) 32 = 8 * k := by omega
      go_wp2
      go_roundw
      case rel => exact ⟨k + 1, by omega, by go_num, grown_setCell hg _ _, hbk.set_ _ _⟩
      case measure => simp [intOf]; omega
    · go_wp2
      obtain rfl : k = n := by omega
      go_end0
      exact ⟨rfl, hg, hbk⟩

/-- Byte k of a word, counted from the low end. -/
def byte64 (x : UInt64) (k : Nat) : UInt8 := (x >>> UInt64.ofNat (8 * k)).toUInt8
theorem byte64_eq (x : UInt64) (k : Nat) (h : k < 8) : IntKind.u8.wrap (n64 x / 2 ^ (8 * k)) = n8 (byte64 x k) := by
  rw [shr_n64 x (8 * k) (by omega), n8_of_n64]; rfl
def put64 (cs : Array Value) (o n : Nat) (x : UInt64) : Nat → Array Value
  | 0 => cs
  | k + 1 => (put64 cs o n x k).setIfInBounds (o + (n - 1 - k)) (U8 (byte64 x k))
theorem size_put64 (cs : Array Value) (o n : Nat) (x : UInt64) (k : Nat) : (put64 cs o n x k).size = cs.size := by
  induction k with
  | zero => rfl
  | succ k ih => simp [put64, ih]
theorem get_put64 (cs : Array Value) (o n : Nat) (x : UInt64) (hs : o + n ≤ cs.size) (i : Nat) : ∀ k, k ≤ n →
    (put64 cs o n x k)[i]? = if o + n - k ≤ i ∧ i < o + n then some (U8 (byte64 x (o + n - 1 - i))) else cs[i]? := by
  intro k
  induction k with
  | zero => intro _; rw [if_neg (by omega)]; rfl
  | succ k ih =>
    intro hk
    rw [put64, Array.getElem?_setIfInBounds, size_put64]
    by_cases h : o + (n - 1 - k) = i
    · rw [if_pos h, if_pos (by omega), if_pos (by omega), show o + n - 1 - i = k by omega]
    · rw [if_neg h, ih (by omega)]
      by_cases h2 : o + n - k ≤ i ∧ i < o + n
      · rw [if_pos h2, if_pos (by omega)]
      · rw [if_neg h2, if_neg (by omega)]

set_option maxHeartbeats 400000 in
theorem putWord64_any (b o n c : Nat) (t : TypeId) (cs : Array Value) (x : UInt64) (w : World) (hb : Blk w b t cs) (hn : n ≤ 8) (hs : o + n ≤ cs.size) :
    Calls Tryd.prog 30 #[.slice (some ⟨b, o, none⟩) n c, U64 x] w fun e w' => e = .returned (.tuple #[]) ∧ w.grownBy w' (some b) ∧ Blk w' b t (put64 cs o n x n) := by
  go_enter Tryd.func30, Tryd.ntmps30
  go_wp2
  go_loopw [7] (fun i wr => ∃ k : Nat, k ≤ n ∧ i = .int .i64 k ∧ w.grownBy wr (some b) ∧ Blk wr b t (put64 cs o n x k)) (fun i _ => n - (intOf i).toNat)
  case atStart => exact ⟨0, Nat.zero_le _, rfl, grown_refl _ _, hb⟩
  case round =>
    obtain ⟨k, hk, rfl, hg, hbk⟩ := hrel
    by_cases hlt : k < n
    · obtain ⟨u, hc⟩ : ∃ u, wr.cell? ⟨b, o + (n - 1 - k), none⟩ = some u := by
        rw [hbk.cell, Array.getElem?_eq_getElem (by rw [size_put64]; omega)]; exact ⟨_, rfl⟩
      have hf := hbk.frozen (o + (n - 1 - k))
      have hr := byte64_eq x k (by omega)
      have hm : min (8 * k) 64 = 8 * k := by omega
      go_wp2
      go_roundw
      case rel => exact ⟨k + 1, by omega, by go_num, grown_setCell hg _ _, hbk.set_ _ _⟩
      case measure => simp [intOf]; omega
    · go_wp2
      obtain rfl : k = n := by omega
      go_end0
      exact ⟨rfl, hg, hbk⟩

end Go.Proofs.YtghjndcbnnbloaaDoor
