/-
  The padding of both hash functions, walked.
-/
import Derived.Test.YtghjndcbnnbloaaDoorCc
import Derived.Test.YtghjndcbnnbloaaDoorCv
import Derived.Test.YtghjndcbnnbloaaDoorPt
import Derived.Lib.Hide
namespace Go.Proofs.YtghjndcbnnbloaaDoor
open Go.RowKit
attribute [local go_sem] and_n32 or_n32 xor_n32 not_n32 add_n32 add_n32' wrap_n32 and_n64 or_n64 xor_n64 not_n64 add_n64 add_n64' wrap_n64

def sumLen (ss : List ByteArray) : Nat := (ss.map ByteArray.size).sum
theorem sumLen_succ (ss : List ByteArray) (k : Nat) (h : k < ss.length) : sumLen (ss.take (k + 1)) = sumLen (ss.take k) + ss[k].size := by
  simp only [sumLen]
  rw [List.take_succ_eq_append_getElem h, List.map_append, List.sum_append]
  simp
theorem sumLen_le (ss : List ByteArray) : ∀ k, sumLen (ss.take k) ≤ sumLen ss := by
  induction ss with
  | nil => intro k; simp [sumLen]
  | cons s ss ih =>
    intro k
    cases k with
    | zero => simp [sumLen]
    | succ k => have := ih k; simp only [sumLen, List.take_succ_cons, List.map_cons, List.sum_cons] at this ⊢; omega
/-- How long the padding is. -/
def padLen (size total : Nat) : Nat := 1 + size / 8 + (size - (total + (1 + size / 8)) % size) % size
/-- The padding: 128, zeros, eight bytes of the number of bits. -/
def padBytes (n total : Nat) : List UInt8 := (List.range n).map fun j => if n - 8 ≤ j then byte64 (UInt64.ofNat (total * 8)) (n - 1 - j) else if j = 0 then 128 else 0
theorem pad_cells (n total j : Nat) (hn : 9 ≤ n) (hj : j < n) :
    (put64 ((Array.replicate n (Value.int .u8 0)).setIfInBounds 0 (.int .u8 128)) (n - 8) 8 (UInt64.ofNat (total * 8)) 8)[0 + j]? = some (U8 ((padBytes n total).getD j 0)) := by
  rw [Nat.zero_add, get_put64 _ _ _ _ (by simp; omega) _ _ (Nat.le_refl _)]
  have e : (padBytes n total).getD j 0 = if n - 8 ≤ j then byte64 (UInt64.ofNat (total * 8)) (n - 1 - j) else if j = 0 then 128 else 0 := by
    simp [padBytes, List.getD_eq_getElem?_getD, hj]
  rw [e]
  by_cases h : n - 8 ≤ j
  · rw [if_pos (by omega), if_pos h, show n - 8 + 8 - 1 - j = n - 1 - j by omega]
  · rw [if_neg (by omega), if_neg h]
    by_cases h0 : j = 0
    · subst h0; rw [Array.getElem?_setIfInBounds, if_pos rfl, if_pos (by simp; omega)]; rfl
    · rw [if_neg h0, Array.getElem?_setIfInBounds, if_neg (by omega), Array.getElem?_replicate, if_pos hj]; rfl

theorem info5 : (Tryd.prog.info? 5).map (fun i => (i.zero, i.size, i.bytes)) = some (some (.int .u8 0), 1, 1) := by kernel_rfl


set_option maxHeartbeats 1000000 in
theorem padding64_any (n c : Nat) (A : Option Addr) (ss : List ByteArray) (w : World) (hs : Strs w A n c ss) (hn : n ≤ 100000) (hlen : sumLen ss ≤ 4294967296) :
    Calls Tryd.prog 36 #[.int .i64 64, .slice A n c] w fun e w' => e = .returned (.string ⟨(padBytes (padLen 64 (sumLen ss)) (sumLen ss)).toArray⟩) ∧ Below w.heap.size w w' := by
  obtain ⟨i0, hi, hz0, hz1, hz2⟩ := info_parts info5
  have hss := hs.1
  go_enter Tryd.func36, Tryd.ntmps36
  go_wp2
  go_loop [5, 13] (fun s i => ∃ k : Nat, k ≤ n ∧ i = .int .i64 k ∧ s = .int .i64 (sumLen (ss.take k))) (fun _ i => n - (intOf i).toNat)
  case atStart => exact ⟨0, Nat.zero_le _, rfl, rfl⟩
  case round =>
    obtain ⟨k, hk, rfl, rfl⟩ := hrel
    by_cases hlt : k < n
    · obtain ⟨ad, rfl⟩ : ∃ ad, A = some ad := by
        rcases A with _ | ad
        · exact absurd (hs.2.1 rfl).1 (by omega)
        · exact ⟨ad, rfl⟩
      have hc := hs.cell k (by omega)
      have hsu := hid (sumLen_succ ss k (by omega))
      have hle := sumLen_le ss (k + 1)
      have hle2 : sumLen (ss.take k) + ss[k].size ≤ sumLen ss := by rw [← hsu.out]; exact hle
      clear hle
      go_wp2
      go_round
      case rel => exact ⟨k + 1, by omega, by go_num, by rw [hsu.out]; go_num⟩
      case measure => simp [intOf]; omega
    · have hT := sumLen_le ss k
      have hTe : sumLen (ss.take k) = sumLen ss := by rw [List.take_of_length_le (by omega)]
      have HTE := hid hTe
      clear hTe
      obtain ⟨T, hT2⟩ : ∃ T, T = sumLen (ss.take k) := ⟨_, rfl⟩
      rw [← hT2] at hT HTE ⊢
      have hp : 9 ≤ padLen 64 T ∧ padLen 64 T ≤ 1000 := by unfold padLen; omega
      have HP : Hid (((padLen 64 T : Nat) : Int) = 1 + 8 + (64 - ((T : Int) + 9) % 64) % 64) := hid (by unfold padLen; omega)
      clear hT2
      go_wp2_with (at_make; refine wpList_make_blk w rfl (.tmp 36) (.tmp 36) 28 rfl 5 i0 _ rfl Tryd.underlying28 hi hz0 hz1 _ _ _ _ (padLen 64 T) rfl rfl ?c1 ?c2 ?c3 ?c4 ?_)
      case c1 => unfold padLen; omega
      case c2 => unfold padLen; omega
      case c3 => omega
      case c4 => unfold maxLen; omega
      intro w1 hb1 hbel1 hlt1
      obtain ⟨N, hN⟩ : ∃ N, N = padLen 64 T := ⟨_, rfl⟩
      rw [← hN] at hb1 hp ⊢
      have HN := hid hN
      clear hN HP
      have hc0 : w1.cell? ⟨w.heap.size, 0, none⟩ = some (.int .u8 0) := by rw [hb1.cell, Array.getElem?_replicate, if_pos (by omega)]
      have hf0 := hb1.frozen 0
      have hb2 := hb1.set_ 0 (.int .u8 128)
      go_wp2_with fail
      rw [show N - (N - 8) = 8 by omega, show ((T : Int) * 8) = n64 (UInt64.ofNat (T * 8)) by rw [← lit_n64 _ (by omega)]; omega]
      refine (putWord64_any w.heap.size (N - 8) 8 8 5 _ _ _ hb2 (by omega) (by simp; omega)).mono ?_
      rintro e w2 ⟨rfl, hg2, hb3⟩
      have hbel2 : Below w.heap.size w w2 := below_grown (hbel1.setCell (Nat.le_refl _) _) hg2 (by simp; omega) (Nat.le_refl _)
      have hlen2 : (padBytes N T).length = N := by simp [padBytes]
      have hby : Bytes w2 w.heap.size 0 (padBytes N T) := bytes_of_blk hb3 0 N (fun j hj => pad_cells N T j (by omega) hj) hlen2
      clear hc0 hf0 hb2 hb1 hbel1 hg2 hb3
      have HL := hid hlen2
      clear hlen2
      go_wp2_with (refine wpList_string_of w2 rfl 28 9 5 (.tmp 49) rfl Tryd.underlying28 Tryd.underlying5 Tryd.underlying9 w.heap.size 0 N N (padBytes N T) rfl HL.out hby ?_)
      go_ret
      exact ⟨by rw [← HTE.out, ← HN.out]; rfl, hbel2⟩

set_option maxHeartbeats 1000000 in
theorem padding128_any (n c : Nat) (A : Option Addr) (ss : List ByteArray) (w : World) (hs : Strs w A n c ss) (hn : n ≤ 100000) (hlen : sumLen ss ≤ 4294967296) :
    Calls Tryd.prog 36 #[.int .i64 128, .slice A n c] w fun e w' => e = .returned (.string ⟨(padBytes (padLen 128 (sumLen ss)) (sumLen ss)).toArray⟩) ∧ Below w.heap.size w w' := by
  obtain ⟨i0, hi, hz0, hz1, hz2⟩ := info_parts info5
  have hss := hs.1
  go_enter Tryd.func36, Tryd.ntmps36
  go_wp2
  go_loop [5, 13] (fun s i => ∃ k : Nat, k ≤ n ∧ i = .int .i64 k ∧ s = .int .i64 (sumLen (ss.take k))) (fun _ i => n - (intOf i).toNat)
  case atStart => exact ⟨0, Nat.zero_le _, rfl, rfl⟩
  case round =>
    obtain ⟨k, hk, rfl, rfl⟩ := hrel
    by_cases hlt : k < n
    · obtain ⟨ad, rfl⟩ : ∃ ad, A = some ad := by
        rcases A with _ | ad
        · exact absurd (hs.2.1 rfl).1 (by omega)
        · exact ⟨ad, rfl⟩
      have hc := hs.cell k (by omega)
      have hsu := hid (sumLen_succ ss k (by omega))
      have hle := sumLen_le ss (k + 1)
      have hle2 : sumLen (ss.take k) + ss[k].size ≤ sumLen ss := by rw [← hsu.out]; exact hle
      clear hle
      go_wp2
      go_round
      case rel => exact ⟨k + 1, by omega, by go_num, by rw [hsu.out]; go_num⟩
      case measure => simp [intOf]; omega
    · have hT := sumLen_le ss k
      have hTe : sumLen (ss.take k) = sumLen ss := by rw [List.take_of_length_le (by omega)]
      have HTE := hid hTe
      clear hTe
      obtain ⟨T, hT2⟩ : ∃ T, T = sumLen (ss.take k) := ⟨_, rfl⟩
      rw [← hT2] at hT HTE ⊢
      have hp : 9 ≤ padLen 128 T ∧ padLen 128 T ≤ 1000 := by unfold padLen; omega
      have HP : Hid (((padLen 128 T : Nat) : Int) = 1 + 16 + (128 - ((T : Int) + 17) % 128) % 128) := hid (by unfold padLen; omega)
      clear hT2
      go_wp2_with (at_make; refine wpList_make_blk w rfl (.tmp 36) (.tmp 36) 28 rfl 5 i0 _ rfl Tryd.underlying28 hi hz0 hz1 _ _ _ _ (padLen 128 T) rfl rfl ?c1 ?c2 ?c3 ?c4 ?_)
      case c1 => unfold padLen; omega
      case c2 => unfold padLen; omega
      case c3 => omega
      case c4 => unfold maxLen; omega
      intro w1 hb1 hbel1 hlt1
      obtain ⟨N, hN⟩ : ∃ N, N = padLen 128 T := ⟨_, rfl⟩
      rw [← hN] at hb1 hp ⊢
      have HN := hid hN
      clear hN HP
      have hc0 : w1.cell? ⟨w.heap.size, 0, none⟩ = some (.int .u8 0) := by rw [hb1.cell, Array.getElem?_replicate, if_pos (by omega)]
      have hf0 := hb1.frozen 0
      have hb2 := hb1.set_ 0 (.int .u8 128)
      go_wp2_with fail
      rw [show N - (N - 8) = 8 by omega, show ((T : Int) * 8) = n64 (UInt64.ofNat (T * 8)) by rw [← lit_n64 _ (by omega)]; omega]
      refine (putWord64_any w.heap.size (N - 8) 8 8 5 _ _ _ hb2 (by omega) (by simp; omega)).mono ?_
      rintro e w2 ⟨rfl, hg2, hb3⟩
      have hbel2 : Below w.heap.size w w2 := below_grown (hbel1.setCell (Nat.le_refl _) _) hg2 (by simp; omega) (Nat.le_refl _)
      have hlen2 : (padBytes N T).length = N := by simp [padBytes]
      have hby : Bytes w2 w.heap.size 0 (padBytes N T) := bytes_of_blk hb3 0 N (fun j hj => pad_cells N T j (by omega) hj) hlen2
      clear hc0 hf0 hb2 hb1 hbel1 hg2 hb3
      have HL := hid hlen2
      clear hlen2
      go_wp2_with (refine wpList_string_of w2 rfl 28 9 5 (.tmp 49) rfl Tryd.underlying28 Tryd.underlying5 Tryd.underlying9 w.heap.size 0 N N (padBytes N T) rfl HL.out hby ?_)
      go_ret
      exact ⟨by rw [← HTE.out, ← HN.out]; rfl, hbel2⟩
end Go.Proofs.YtghjndcbnnbloaaDoor
