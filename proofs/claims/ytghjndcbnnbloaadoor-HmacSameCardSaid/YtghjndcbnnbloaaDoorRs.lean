/-
  The reference's words (cut, right, three, k, start), walked.
-/
import Derived.Test.YtghjndcbnnbloaaDoorCp
import Derived.Test.YtghjndcbnnbloaaDoorRp
namespace Go.Proofs.YtghjndcbnnbloaaDoor
open Go.RowKit
attribute [local go_sem] and_n64 or_n64 xor_n64 not_n64 add_n64 add_n64' wrap_n64


theorem mod_n64 (x : UInt64) : n64 x % 4294967296 = n64 (x % 4294967296) := by
  unfold n64; rw [UInt64.toNat_mod]; show _ = ((x.toNat % 4294967296 : Nat) : Int); omega
set_option maxHeartbeats 400000 in
theorem cut32_any (x : UInt64) (w : World) : Calls Tryd.prog 51 #[U64 x, .int .i64 32] w fun e w' => e = .returned (U64 (rcut 32 x)) ∧ w' = w := by
  have hm := mod_n64 x
  have h0 := n64_nonneg x
  go_enter Tryd.func51, Tryd.ntmps51
  go_wp2
  go_ret
  exact ⟨rfl, rfl⟩
set_option maxHeartbeats 400000 in
theorem cut64_any (x : UInt64) (w : World) : Calls Tryd.prog 51 #[U64 x, .int .i64 64] w fun e w' => e = .returned (U64 (rcut 64 x)) ∧ w' = w := by
  go_enter Tryd.func51, Tryd.ntmps51
  go_wp2
  go_ret
  exact ⟨rfl, rfl⟩
set_option maxHeartbeats 400000 in
theorem right32_any (x : UInt64) (n : Nat) (w : World) (h1 : 1 ≤ n) (h2 : n < 32) : Calls Tryd.prog 53 #[U64 x, .int .i64 (n : Int), .int .i64 32] w fun e w' => e = .returned (U64 (rright 32 x n)) ∧ ∃ m, w' = w.drewN m := by
  have hr := shr_n64 x n (by omega)
  have hl : IntKind.u64.wrap (n64 x * 2 ^ (32 - n)) = n64 (x <<< UInt64.ofNat (32 - n)) := by rw [wrap_u64]; exact shl_n64 x (32 - n) (by omega)
  have hm : min n 64 = n := by omega
  have hm2 : min (32 - n) 64 = 32 - n := by omega
  have hs : IntKind.i64.wrap (32 - (n : Int)) = 32 - (n : Int) := IntWalk.i64_in _ (by omega)
  have ht : (32 - (n : Int)).toNat = 32 - n := by omega
  have hp : (0 : Int) ≤ 32 - (n : Int) := by omega
  have hp2 : (n : Int) ≤ 32 := by omega
  go_enter Tryd.func53, Tryd.ntmps53
  go_wp2
  go_quiet ((go_at_call 51; exact Calls.quiet_of_same (cut32_any _ _)))
  go_wp2
  go_ret
  exact ⟨rfl, _, rfl⟩
theorem right32_int (x : UInt64) (n : Int) (w : World) (h1 : 1 ≤ n) (h2 : n < 32) : Calls Tryd.prog 53 #[U64 x, .int .i64 n, .int .i64 32] w fun e w' => e = .returned (U64 (rright 32 x n.toNat)) ∧ ∃ m, w' = w.drewN m := by
  obtain ⟨m, rfl⟩ := Int.eq_ofNat_of_zero_le (show 0 ≤ n by omega)
  exact right32_any x m w (by omega) (by omega)
set_option maxHeartbeats 400000 in
theorem three32_shift (x : UInt64) (a b c : Int) (w : World) (ha : 1 ≤ a) (ha2 : a < 32) (hb : 1 ≤ b) (hb2 : b < 32) (hc : 1 ≤ c) (hc2 : c < 32) :
    Calls Tryd.prog 50 #[U64 x, .int .i64 a, .int .i64 b, .int .i64 c, .int .i64 32, .bool true] w fun e w' => e = .returned (U64 (rthree 32 x a.toNat b.toNat c.toNat true)) ∧ ∃ m, w' = w.drewN m := by
  have hs := shr_n64 x c.toNat (by omega)
  have hm : min c.toNat 64 = c.toNat := by omega
  go_enter Tryd.func50, Tryd.ntmps50
  go_wp2_with (go_at_call 53; refine (right32_int _ _ _ (by omega) (by omega)).mono ?_; rintro e w' ⟨rfl, m, rfl⟩)
  go_ret
  exact ⟨rfl, _, rfl⟩
set_option maxHeartbeats 400000 in
theorem three32_turn (x : UInt64) (a b c : Int) (w : World) (ha : 1 ≤ a) (ha2 : a < 32) (hb : 1 ≤ b) (hb2 : b < 32) (hc : 1 ≤ c) (hc2 : c < 32) :
    Calls Tryd.prog 50 #[U64 x, .int .i64 a, .int .i64 b, .int .i64 c, .int .i64 32, .bool false] w fun e w' => e = .returned (U64 (rthree 32 x a.toNat b.toNat c.toNat false)) ∧ ∃ m, w' = w.drewN m := by
  go_enter Tryd.func50, Tryd.ntmps50
  go_wp2_with (go_at_call 53; refine (right32_int _ _ _ (by omega) (by omega)).mono ?_; rintro e w' ⟨rfl, m, rfl⟩)
  go_ret
  exact ⟨rfl, _, rfl⟩
set_option maxHeartbeats 400000 in
theorem right64_any (x : UInt64) (n : Nat) (w : World) (h1 : 1 ≤ n) (h2 : n < 64) : Calls Tryd.prog 53 #[U64 x, .int .i64 (n : Int), .int .i64 64] w fun e w' => e = .returned (U64 (rright 64 x n)) ∧ ∃ m, w' = w.drewN m := by
  have hr := shr_n64 x n (by omega)
  have hl : IntKind.u64.wrap (n64 x * 2 ^ (64 - n)) = n64 (x <<< UInt64.ofNat (64 - n)) := by rw [wrap_u64]; exact shl_n64 x (64 - n) (by omega)
  have hm : min n 64 = n := by omega
  have hm2 : min (64 - n) 64 = 64 - n := by omega
  have hs : IntKind.i64.wrap (64 - (n : Int)) = 64 - (n : Int) := IntWalk.i64_in _ (by omega)
  have ht : (64 - (n : Int)).toNat = 64 - n := by omega
  have hp : (0 : Int) ≤ 64 - (n : Int) := by omega
  have hp2 : (n : Int) ≤ 64 := by omega
  go_enter Tryd.func53, Tryd.ntmps53
  go_wp2
  go_quiet ((go_at_call 51; exact Calls.quiet_of_same (cut64_any _ _)))
  go_wp2
  go_ret
  exact ⟨rfl, _, rfl⟩
theorem right64_int (x : UInt64) (n : Int) (w : World) (h1 : 1 ≤ n) (h2 : n < 64) : Calls Tryd.prog 53 #[U64 x, .int .i64 n, .int .i64 64] w fun e w' => e = .returned (U64 (rright 64 x n.toNat)) ∧ ∃ m, w' = w.drewN m := by
  obtain ⟨m, rfl⟩ := Int.eq_ofNat_of_zero_le (show 0 ≤ n by omega)
  exact right64_any x m w (by omega) (by omega)
set_option maxHeartbeats 400000 in
theorem three64_shift (x : UInt64) (a b c : Int) (w : World) (ha : 1 ≤ a) (ha2 : a < 64) (hb : 1 ≤ b) (hb2 : b < 64) (hc : 1 ≤ c) (hc2 : c < 64) :
    Calls Tryd.prog 50 #[U64 x, .int .i64 a, .int .i64 b, .int .i64 c, .int .i64 64, .bool true] w fun e w' => e = .returned (U64 (rthree 64 x a.toNat b.toNat c.toNat true)) ∧ ∃ m, w' = w.drewN m := by
  have hs := shr_n64 x c.toNat (by omega)
  have hm : min c.toNat 64 = c.toNat := by omega
  go_enter Tryd.func50, Tryd.ntmps50
  go_wp2_with (go_at_call 53; refine (right64_int _ _ _ (by omega) (by omega)).mono ?_; rintro e w' ⟨rfl, m, rfl⟩)
  go_ret
  exact ⟨rfl, _, rfl⟩
set_option maxHeartbeats 400000 in
theorem three64_turn (x : UInt64) (a b c : Int) (w : World) (ha : 1 ≤ a) (ha2 : a < 64) (hb : 1 ≤ b) (hb2 : b < 64) (hc : 1 ≤ c) (hc2 : c < 64) :
    Calls Tryd.prog 50 #[U64 x, .int .i64 a, .int .i64 b, .int .i64 c, .int .i64 64, .bool false] w fun e w' => e = .returned (U64 (rthree 64 x a.toNat b.toNat c.toNat false)) ∧ ∃ m, w' = w.drewN m := by
  go_enter Tryd.func50, Tryd.ntmps50
  go_wp2_with (go_at_call 53; refine (right64_int _ _ _ (by omega) (by omega)).mono ?_; rintro e w' ⟨rfl, m, rfl⟩)
  go_ret
  exact ⟨rfl, _, rfl⟩

theorem getElem_lits {L : List Value} {t : Nat} {h : t < L.length} (e : L = K512.map U64) : L[t]'h = U64 (K512.getD t 0) := by
  subst e
  have h' : t < K512.length := by simpa using h
  rw [List.getElem_map, List.getD_eq_getElem?_getD, List.getElem?_eq_getElem h']; rfl
set_option maxHeartbeats 1000000 in
set_option maxRecDepth 100000 in
theorem k_any (t : Nat) (w : World) (ht : t < 80) : Calls Tryd.prog 52 #[.int .i64 (t : Int)] w fun e w' => e = .returned (U64 (K512.getD t 0)) ∧ Below w.heap.size w w' := by
  go_enter Tryd.func52, Tryd.ntmps52
  go_wp2
  go_ret
  rw [getElem_lits]
  · exact ⟨rfl, (Below.refl _ _).alloc (Nat.le_refl _) _⟩
  · kernel_rfl

def startL : List UInt64 := [0x6a09e667f3bcc908, 0xbb67ae8584caa73b, 0x3c6ef372fe94f82b, 0xa54ff53a5f1d36f1, 0x510e527fade682d1, 0x9b05688c2b3e6c1f, 0x1f83d9abfb41bd6b, 0x5be0cd19137e2179]
set_option maxHeartbeats 1000000 in
theorem start_any (w : World) : Calls Tryd.prog 43 #[] w fun e w' => e = .returned (.slice (some ⟨w.heap.size, 0, none⟩) 8 8) ∧ Below w.heap.size w w' ∧ Blk w' w.heap.size 46 (startL.map U64).toArray := by
  go_enter Tryd.func43, Tryd.ntmps43
  go_wp2
  go_ret
  exact ⟨rfl, (Below.refl _ _).alloc (Nat.le_refl _) _, blk_cast (Blk.new w 46 _) (by kernel_rfl)⟩
end Go.Proofs.YtghjndcbnnbloaaDoor
