/-
  hmac.Same, walked: it tells whether two strings are equal.
-/
import Derived.Test.YtghjndcbnnbloaaDoorHm
namespace Go.Proofs.YtghjndcbnnbloaaDoor
open Go.RowKit
attribute [local go_sem] xor_n8 or_n8
theorem or_xor_zero (x p q : UInt8) : x ||| (p ^^^ q) = 0 ↔ x = 0 ∧ p = q := by
  rw [← UInt8.toBitVec_inj, ← UInt8.toBitVec_inj (a := x), ← UInt8.toBitVec_inj (a := p)]
  show x.toBitVec ||| (p.toBitVec ^^^ q.toBitVec) = 0#8 ↔ x.toBitVec = 0#8 ∧ _
  rw [BitVec.or_eq_zero_iff, BitVec.xor_eq_zero_iff]
theorem n8_zero (x : UInt8) : n8 x = 0 ↔ x = 0 := by
  unfold n8
  constructor
  · intro h; exact UInt8.toNat_inj.1 (by show x.toNat = 0; omega)
  · rintro rfl; rfl
theorem take_succ_eq {a b : List UInt8} (k : Nat) (ha : k < a.length) (hb : k < b.length) : a.take (k + 1) = b.take (k + 1) ↔ a.take k = b.take k ∧ a[k] = b[k] := by
  rw [List.take_succ_eq_append_getElem ha, List.take_succ_eq_append_getElem hb]
  constructor
  · intro h
    have := List.append_inj h (by simp; omega)
    exact ⟨this.1, by simpa using this.2⟩
  · rintro ⟨h1, h2⟩; rw [h1, h2]
def SameRel (w : World) (a b : ByteArray) (d i : Value) (wr : World) : Prop :=
  ∃ (k : Nat) (x : UInt8), k ≤ b.size ∧ i = .int .i64 k ∧ d = U8 x ∧ (x = 0 ↔ a.data.toList.take k = b.data.toList.take k) ∧ Below w.heap.size w wr
theorem same_any (a b : ByteArray) (w : World) (ha : a.size ≤ maxLen) (_hb : b.size ≤ maxLen) :
    Calls Tryd.prog 21 #[.string a, .string b] w fun e w' => e = .returned (.bool (decide (a.data.toList = b.data.toList))) ∧ Below w.heap.size w w' := by
  unfold maxLen at ha _hb
  by_cases hl : a.size = b.size
  · go_enter Tryd.func21, Tryd.ntmps21
    have hle : decide (a.data.toList = b.data.toList) = decide (a.data.toList.take b.size = b.data.toList.take b.size) := by
      rw [List.take_of_length_le (show a.data.toList.length ≤ b.size by rw [← hl]; exact Nat.le_refl _), List.take_of_length_le (show b.data.toList.length ≤ b.size from Nat.le_refl _)]
    have HLE := hid hle
    clear hle
    go_wp2
    go_loopw [5, 14] (fun d i wr => SameRel w a b d i wr) (fun _ i _ => b.size - (intOf i).toNat)
    case atStart => exact ⟨0, 0, Nat.zero_le _, rfl, rfl, by simp, Below.refl _ _⟩
    case round =>
      obtain ⟨k, x, hk, rfl, rfl, hx, hbel⟩ := hrel
      by_cases hlt : k < b.size
      · have hd : decide ((k : Int) < b.size) = true := decide_eq_true (by omega)
        have hka : k < a.size := by omega
        have hza : ((a[k].toNat : Nat) : Int) = n8 a[k] := rfl
        have hzb : ((b[k].toNat : Nat) : Int) = n8 b[k] := rfl
        have hi0 : (0 : Int) ≤ k := by omega
        have hia : (k : Int) < a.size := by omega
        have hib : (k : Int) < b.size := by omega
        have hnew : x ||| (a[k] ^^^ b[k]) = 0 ↔ a.data.toList.take (k + 1) = b.data.toList.take (k + 1) := by
          rw [or_xor_zero, take_succ_eq k (show k < a.data.toList.length from hka) (show k < b.data.toList.length from hlt), ← hx]
          rfl
        have HN := hid hnew
        have HX := hid hx
        clear hnew hx
        go_wp2
        go_region
        go_wp2
        go_roundw
        case rel => exact ⟨k + 1, _, by omega, by go_num, rfl, HN.out, hbel.drew⟩
        case measure => simp [intOf]; omega
      · have hd : decide ((k : Int) < b.size) = false := decide_eq_false (by omega)
        have HX := hid hx
        clear hx
        go_wp2
        go_ret
        refine ⟨?_, hbel⟩
        rw [HLE.out, show b.size = k by omega]
        refine congrArg (fun t => Ending.returned (Value.bool t)) ?_
        rw [Bool.eq_iff_iff, beq_iff_eq, decide_eq_true_iff, n8_zero]
        exact HX.out
  · go_enter Tryd.func21, Tryd.ntmps21
    have hne : decide (a.data.toList = b.data.toList) = false := decide_eq_false (fun h => hl (show a.data.toList.length = b.data.toList.length by rw [h]))
    go_wp2
    go_ret
    exact ⟨by rw [hne]; rfl, Below.refl _ _⟩
end Go.Proofs.YtghjndcbnnbloaaDoor
