/-
  The words of both hash functions: rotations, and one step of the compression, walked.
-/
import Derived.Test.YtghjndcbnnbloaaDoorProg
import Derived.Test.YtghjndcbnnbloaaDoorM
import Derived.Test.YtghjndcbnnbloaaDoorSp
import Derived.WalkSpells
import Derived.WalkLawsBesides
import Derived.Deep.QuietTactic
import Derived.BigQuiet
import Derived.Lib.Hide
namespace Go.Proofs.YtghjndcbnnbloaaDoor
open Go.RowKit

attribute [local go_sem] and_n32 or_n32 xor_n32 not_n32 add_n32 add_n32' wrap_n32 and_n64 or_n64 xor_n64 not_n64 add_n64 add_n64' wrap_n64

theorem and_mask32 (n : Nat) (h1 : 1 ≤ n) (h2 : n < 32) : bits BinOp.and IntKind.u64 (IntKind.u64.wrap (-(n : Int))) 31 = ((32 - n : Nat) : Int) := by
  have e : ∀ m : Fin 32, m.val ≠ 0 → bits BinOp.and IntKind.u64 (IntKind.u64.wrap (-(m.val : Int))) 31 = ((32 - m.val : Nat) : Int) := by decide +kernel
  exact e ⟨n, h2⟩ (by simpa using Nat.one_le_iff_ne_zero.1 h1)

set_option maxHeartbeats 400000 in
theorem rotl32_neg (u : UInt32) (n : Nat) (w : World) (h1 : 1 ≤ n) (h2 : n < 32) :
    Calls Tryd.prog 47 #[U32 u, .int .i64 (-(n : Int))] w fun e w' => e = .returned (U32 (rotr32 u n)) ∧ w = w' := by
  have hA := and_mask32 n h1 h2
  have hB : min (32 - n) 32 = 32 - n := by omega
  have hD : IntKind.u64.wrap (32 - ((32 - n : Nat) : Int)) = (n : Int) := by rw [wrap_u64]; omega
  have hE : min n 32 = n := by omega
  have hF := shl_n32 u (32 - n) (by omega)
  have hG := shr_n32 u n h2
  go_enter Tryd.func47, Tryd.ntmps47
  go_wp2
  go_ret
  exact ⟨rfl, rfl⟩

set_option maxHeartbeats 400000 in
theorem rotr32_any (u : UInt32) (n : Nat) (w : World) (h1 : 1 ≤ n) (h2 : n < 32) :
    Calls Tryd.prog 38 #[U32 u, .int .i64 (n : Int)] w fun e w' => e = .returned (U32 (rotr32 u n)) ∧ w = w' := by
  go_enter Tryd.func38, Tryd.ntmps38
  go_wp2_with (go_at_call 47; refine (rotl32_neg _ _ _ h1 h2).mono ?_; rintro e w' ⟨rfl, rfl⟩)
  go_ret
  exact ⟨rfl, rfl⟩

theorem rotr32_int (u : UInt32) (n : Int) (w : World) (h1 : 1 ≤ n) (h2 : n < 32) :
    Calls Tryd.prog 38 #[U32 u, .int .i64 n] w fun e w' => e = .returned (U32 (rotr32 u n.toNat)) ∧ w = w' := by
  obtain ⟨m, rfl⟩ := Int.eq_ofNat_of_zero_le (show 0 ≤ n by omega)
  exact rotr32_any u m w (by omega) (by omega)

theorem copy7_32 (w : World) (b : Nat) (t : TypeId) (s : St32) (hb : Blk w b t s.cells) :
    ∀ n, (Builtin.copy_ #[72, 72] 3 #[.slice (some ⟨b, 1, none⟩) 7 7, .slice (some ⟨b, 0, none⟩) 7 8]).run Tryd.prog (w.drewN n) = .ok (.int .i64 7) ((w.drewN n).setRow b #[U32 s.v0, U32 s.v0, U32 s.v1, U32 s.v2, U32 s.v3, U32 s.v4, U32 s.v5, U32 s.v6]) := by
  intro n
  refine run_copy_row (P := Tryd.prog) (w.drewN n) 72 72 3 40 b 1 7 7 ⟨b, 0, none⟩ 7 8 _ t [U32 s.v0, U32 s.v1, U32 s.v2, U32 s.v3, U32 s.v4, U32 s.v5, U32 s.v6] Tryd.underlying72 (by kernel_rfl) (hb.drewN n) rfl ?_ (Nat.le_refl 8) (by simp [Value.oneCell'])
  intro j v hj
  rw [addr_add, (hb.drewN n).cell j]
  match j, hj with
  | 0, hj => exact hj
  | 1, hj => exact hj
  | 2, hj => exact hj
  | 3, hj => exact hj
  | 4, hj => exact hj
  | 5, hj => exact hj
  | 6, hj => exact hj
  | (n + 7), hj => simp at hj

set_option maxHeartbeats 1000000 in
set_option maxRecDepth 100000 in
theorem step32_any (b : Nat) (t : TypeId) (s : St32) (e0 e1 kw : UInt32) (w : World) (hb : Blk w b t s.cells) :
    Calls Tryd.prog 39 #[.pointer (some ⟨b, 0, none⟩), U32 e0, U32 e1, U32 kw] w fun e w' => e = .returned (.tuple #[]) ∧ w.grownBy w' (some b) ∧
      Blk w' b t (stepSt32 s e0 e1 kw).cells := by
  obtain ⟨v0, v1, v2, v3, v4, v5, v6, v7⟩ := s
  have h0 : w.cell? ⟨b, 0, none⟩ = some (U32 v0) := hb.cell 0
  have h1 : w.cell? ⟨b, 1, none⟩ = some (U32 v1) := hb.cell 1
  have h2 : w.cell? ⟨b, 2, none⟩ = some (U32 v2) := hb.cell 2
  have h4 : w.cell? ⟨b, 4, none⟩ = some (U32 v4) := hb.cell 4
  have h5 : w.cell? ⟨b, 5, none⟩ = some (U32 v5) := hb.cell 5
  have h6 : w.cell? ⟨b, 6, none⟩ = some (U32 v6) := hb.cell 6
  have h7 : w.cell? ⟨b, 7, none⟩ = some (U32 v7) := hb.cell 7
  have hc := copy7_32 w b t _ hb
  simp only at hc
  have g0 : ∀ n, ((w.drewN n).setRow b #[U32 v0, U32 v0, U32 v1, U32 v2, U32 v3, U32 v4, U32 v5, U32 v6]).cell? ⟨b, 0, none⟩ = some (U32 v0) := fun n => ((hb.drewN n).row _).cell 0
  have g4 : ∀ n, ((w.drewN n).setRow b #[U32 v0, U32 v0, U32 v1, U32 v2, U32 v3, U32 v4, U32 v5, U32 v6]).cell? ⟨b, 4, none⟩ = some (U32 v3) := fun n => ((hb.drewN n).row _).cell 4
  have gf : ∀ n j, ((w.drewN n).setRow b #[U32 v0, U32 v0, U32 v1, U32 v2, U32 v3, U32 v4, U32 v5, U32 v6]).frozen? ⟨b, j, none⟩ = false := fun n j => ((hb.drewN n).row _).frozen j
  go_enter Tryd.func39, Tryd.ntmps39
  go_wp2
  go_quiet (fail)
  go_wp2
  go_quiet (fail)
  go_wp2
  go_region
  go_wp2
  go_region
  go_wp2
  go_end0
  exact ⟨rfl, grown_drew (grown_setCell (grown_setCell (grown_setRow (grown_drewN (grown_refl _ _) _) _) _ _) _ _), ((((hb.drewN _).row _).set_ 4 _).set_ 0 _).drew⟩

theorem and_mask64 (n : Nat) (h1 : 1 ≤ n) (h2 : n < 64) : bits BinOp.and IntKind.u64 (IntKind.u64.wrap (-(n : Int))) 63 = ((64 - n : Nat) : Int) := by
  have e : ∀ m : Fin 64, m.val ≠ 0 → bits BinOp.and IntKind.u64 (IntKind.u64.wrap (-(m.val : Int))) 63 = ((64 - m.val : Nat) : Int) := by decide +kernel
  exact e ⟨n, h2⟩ (by simpa using Nat.one_le_iff_ne_zero.1 h1)

set_option maxHeartbeats 400000 in
theorem rotl64_neg (u : UInt64) (n : Nat) (w : World) (h1 : 1 ≤ n) (h2 : n < 64) :
    Calls Tryd.prog 49 #[U64 u, .int .i64 (-(n : Int))] w fun e w' => e = .returned (U64 (rotr64 u n)) ∧ w = w' := by
  have hA := and_mask64 n h1 h2
  have hB : min (64 - n) 64 = 64 - n := by omega
  have hD : IntKind.u64.wrap (64 - ((64 - n : Nat) : Int)) = (n : Int) := by rw [wrap_u64]; omega
  have hE : min n 64 = n := by omega
  have hF := shl_n64 u (64 - n) (by omega)
  rw [← wrap_u64] at hF
  have hG := shr_n64 u n h2
  go_enter Tryd.func49, Tryd.ntmps49
  go_wp2
  go_ret
  exact ⟨rfl, rfl⟩

set_option maxHeartbeats 400000 in
theorem rotr64_any (u : UInt64) (n : Nat) (w : World) (h1 : 1 ≤ n) (h2 : n < 64) :
    Calls Tryd.prog 41 #[U64 u, .int .i64 (n : Int)] w fun e w' => e = .returned (U64 (rotr64 u n)) ∧ w = w' := by
  go_enter Tryd.func41, Tryd.ntmps41
  go_wp2_with (go_at_call 49; refine (rotl64_neg _ _ _ h1 h2).mono ?_; rintro e w' ⟨rfl, rfl⟩)
  go_ret
  exact ⟨rfl, rfl⟩

theorem rotr64_int (u : UInt64) (n : Int) (w : World) (h1 : 1 ≤ n) (h2 : n < 64) :
    Calls Tryd.prog 41 #[U64 u, .int .i64 n] w fun e w' => e = .returned (U64 (rotr64 u n.toNat)) ∧ w = w' := by
  obtain ⟨m, rfl⟩ := Int.eq_ofNat_of_zero_le (show 0 ≤ n by omega)
  exact rotr64_any u m w (by omega) (by omega)

theorem copy7_64 (w : World) (b : Nat) (t : TypeId) (s : St64) (hb : Blk w b t s.cells) :
    ∀ n, (Builtin.copy_ #[66, 66] 3 #[.slice (some ⟨b, 1, none⟩) 7 7, .slice (some ⟨b, 0, none⟩) 7 8]).run Tryd.prog (w.drewN n) = .ok (.int .i64 7) ((w.drewN n).setRow b #[U64 s.v0, U64 s.v0, U64 s.v1, U64 s.v2, U64 s.v3, U64 s.v4, U64 s.v5, U64 s.v6]) := by
  intro n
  refine run_copy_row (P := Tryd.prog) (w.drewN n) 66 66 3 46 b 1 7 7 ⟨b, 0, none⟩ 7 8 _ t [U64 s.v0, U64 s.v1, U64 s.v2, U64 s.v3, U64 s.v4, U64 s.v5, U64 s.v6] Tryd.underlying66 (by kernel_rfl) (hb.drewN n) rfl ?_ (Nat.le_refl 8) (by simp [Value.oneCell'])
  intro j v hj
  rw [addr_add, (hb.drewN n).cell j]
  match j, hj with
  | 0, hj => exact hj
  | 1, hj => exact hj
  | 2, hj => exact hj
  | 3, hj => exact hj
  | 4, hj => exact hj
  | 5, hj => exact hj
  | 6, hj => exact hj
  | (n + 7), hj => simp at hj

set_option maxHeartbeats 1000000 in
set_option maxRecDepth 100000 in
theorem step64_any (b : Nat) (t : TypeId) (s : St64) (e0 e1 kw : UInt64) (w : World) (hb : Blk w b t s.cells) :
    Calls Tryd.prog 42 #[.pointer (some ⟨b, 0, none⟩), U64 e0, U64 e1, U64 kw] w fun e w' => e = .returned (.tuple #[]) ∧ w.grownBy w' (some b) ∧
      Blk w' b t (stepSt64 s e0 e1 kw).cells := by
  obtain ⟨v0, v1, v2, v3, v4, v5, v6, v7⟩ := s
  have h0 : w.cell? ⟨b, 0, none⟩ = some (U64 v0) := hb.cell 0
  have h1 : w.cell? ⟨b, 1, none⟩ = some (U64 v1) := hb.cell 1
  have h2 : w.cell? ⟨b, 2, none⟩ = some (U64 v2) := hb.cell 2
  have h4 : w.cell? ⟨b, 4, none⟩ = some (U64 v4) := hb.cell 4
  have h5 : w.cell? ⟨b, 5, none⟩ = some (U64 v5) := hb.cell 5
  have h6 : w.cell? ⟨b, 6, none⟩ = some (U64 v6) := hb.cell 6
  have h7 : w.cell? ⟨b, 7, none⟩ = some (U64 v7) := hb.cell 7
  have hc := copy7_64 w b t _ hb
  simp only at hc
  have g0 : ∀ n, ((w.drewN n).setRow b #[U64 v0, U64 v0, U64 v1, U64 v2, U64 v3, U64 v4, U64 v5, U64 v6]).cell? ⟨b, 0, none⟩ = some (U64 v0) := fun n => ((hb.drewN n).row _).cell 0
  have g4 : ∀ n, ((w.drewN n).setRow b #[U64 v0, U64 v0, U64 v1, U64 v2, U64 v3, U64 v4, U64 v5, U64 v6]).cell? ⟨b, 4, none⟩ = some (U64 v3) := fun n => ((hb.drewN n).row _).cell 4
  have gf : ∀ n j, ((w.drewN n).setRow b #[U64 v0, U64 v0, U64 v1, U64 v2, U64 v3, U64 v4, U64 v5, U64 v6]).frozen? ⟨b, j, none⟩ = false := fun n j => ((hb.drewN n).row _).frozen j
  go_enter Tryd.func42, Tryd.ntmps42
  go_wp2
  go_quiet (fail)
  go_wp2
  go_quiet (fail)
  go_wp2
  go_region
  go_wp2
  go_region
  go_wp2
  go_end0
  exact ⟨rfl, grown_drew (grown_setCell (grown_setCell (grown_setRow (grown_drewN (grown_refl _ _) _) _) _ _) _ _), ((((hb.drewN _).row _).set_ 4 _).set_ 0 _).drew⟩

end Go.Proofs.YtghjndcbnnbloaaDoor
