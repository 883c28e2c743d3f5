/-
  Sum256, walked.
-/
import Derived.Test.YtghjndcbnnbloaaDoorEb32
namespace Go.Proofs.YtghjndcbnnbloaaDoor
open Go.RowKit
attribute [local go_sem] and_n32 or_n32 xor_n32 not_n32 add_n32 add_n32' wrap_n32 and_n64 or_n64 xor_n64 not_n64 add_n64 add_n64' wrap_n64

def init32 : St32 := { v0 := 0x6a09e667, v1 := 0xbb67ae85, v2 := 0x3c6ef372, v3 := 0xa54ff53a, v4 := 0x510e527f, v5 := 0x9b05688c, v6 := 0x1f83d9ab, v7 := 0x5be0cd19 }
def dig32 (s : St32) (j : Nat) : UInt8 := byte32 (stN32 s (j / 4)) (3 - j % 4)
def digest32 (s : St32) : List UInt8 := (List.range 32).map (dig32 s)
/-- The hash of a list of bytes. -/
def sha256 (T : List UInt8) : List UInt8 :=
  digest32 (blocks32 init32 (T ++ padBytes (padLen 64 T.length) T.length) ((T ++ padBytes (padLen 64 T.length) T.length).length / 64))
theorem length_sha256 (T : List UInt8) : (sha256 T).length = 32 := by simp [sha256, digest32]
theorem put_dig32 (s : St32) (i : Nat) (hi : i < 8) :
    put32 (mixF (fun _ => U8 0) (fun j => U8 (dig32 s j)) 32 (4 * i)) (4 * i) 4 (stN32 s i) 4 = mixF (fun _ => U8 0) (fun j => U8 (dig32 s j)) 32 (4 * (i + 1)) := by
  apply Array.ext_getElem?
  intro j
  rw [get_put32 _ _ _ _ (by rw [size_mixF]; omega) _ _ (Nat.le_refl _)]
  by_cases hj : j < 32
  · rw [get_mixF _ _ _ _ _ hj, get_mixF _ _ _ _ _ hj]
    by_cases h : 4 * i + 4 - 4 ≤ j ∧ j < 4 * i + 4
    · rw [if_pos h, if_pos (by omega)]
      unfold dig32
      rw [show j / 4 = i by omega, show 4 * i + 4 - 1 - j = 3 - j % 4 by omega]
    · rw [if_neg h]
      by_cases h2 : j < 4 * i
      · rw [if_pos h2, if_pos (by omega)]
      · rw [if_neg h2, if_neg (by omega)]
  · rw [if_neg (by omega)]
    rw [Array.getElem?_eq_none (by rw [size_mixF]; omega), Array.getElem?_eq_none (by rw [size_mixF]; omega)]
theorem mix_dig32 (s : St32) : mixF (fun _ => U8 0) (fun j => U8 (dig32 s j)) 32 (4 * 8) = ((digest32 s).map U8).toArray := by
  apply Array.ext_getElem?
  intro j
  by_cases hj : j < 32
  · rw [get_mixF _ _ _ _ _ hj, if_pos (by omega)]; simp [digest32, hj]
  · rw [Array.getElem?_eq_none (by rw [size_mixF]; omega), Array.getElem?_eq_none (by simp [digest32]; omega)]
theorem size24 (L : List UInt8) (h : L.length = 32) : (Tryd.prog.info? 24).map (·.size) = some ((L.map U8).toArray).size := by
  simp only [List.size_toArray, List.length_map, h]; kernel_rfl
theorem oneCell_bytes32 (L : List UInt8) : ((L.map U8).toArray).all (·.oneCell') = true := by simp [Value.oneCell']
theorem length_digest32 (s : St32) : (digest32 s).length = 32 := by simp [digest32]
theorem mix0_dig32 (s : St32) : #[Value.int IntKind.u8 0, Value.int IntKind.u8 0, Value.int IntKind.u8 0, Value.int IntKind.u8 0, Value.int IntKind.u8 0, Value.int IntKind.u8 0, Value.int IntKind.u8 0, Value.int IntKind.u8 0, Value.int IntKind.u8 0, Value.int IntKind.u8 0, Value.int IntKind.u8 0, Value.int IntKind.u8 0, Value.int IntKind.u8 0, Value.int IntKind.u8 0, Value.int IntKind.u8 0, Value.int IntKind.u8 0, Value.int IntKind.u8 0, Value.int IntKind.u8 0, Value.int IntKind.u8 0, Value.int IntKind.u8 0, Value.int IntKind.u8 0, Value.int IntKind.u8 0, Value.int IntKind.u8 0, Value.int IntKind.u8 0, Value.int IntKind.u8 0, Value.int IntKind.u8 0, Value.int IntKind.u8 0, Value.int IntKind.u8 0, Value.int IntKind.u8 0, Value.int IntKind.u8 0, Value.int IntKind.u8 0, Value.int IntKind.u8 0] = mixF (fun _ => U8 0) (fun j => U8 (dig32 s j)) 32 (4 * 0) := by kernel_rfl

set_option maxHeartbeats 2000000 in
set_option maxRecDepth 100000 in
theorem sum256_any (n c : Nat) (A : Option Addr) (ss : List ByteArray) (w : World) (hs : Strs w A n c ss) (hK : KAt32 w) (hn : n ≤ 10000) (hlen : sumLen ss ≤ 4294967296) :
    Calls Tryd.prog 12 #[.slice A n c] w fun e w' => e = .returned (.agg ((sha256 (flat ss)).map U8).toArray) ∧ Below w.heap.size w w' := by
  have hgb := hK.lt
  go_enter Tryd.func12, Tryd.ntmps12
  obtain ⟨w1, hw1, hbel1, hr1, hh1, hsz1⟩ := two_rows w 24 41 #[Value.int IntKind.u8 0, Value.int IntKind.u8 0, Value.int IntKind.u8 0, Value.int IntKind.u8 0, Value.int IntKind.u8 0, Value.int IntKind.u8 0, Value.int IntKind.u8 0, Value.int IntKind.u8 0, Value.int IntKind.u8 0, Value.int IntKind.u8 0, Value.int IntKind.u8 0, Value.int IntKind.u8 0, Value.int IntKind.u8 0, Value.int IntKind.u8 0, Value.int IntKind.u8 0, Value.int IntKind.u8 0, Value.int IntKind.u8 0, Value.int IntKind.u8 0, Value.int IntKind.u8 0, Value.int IntKind.u8 0, Value.int IntKind.u8 0, Value.int IntKind.u8 0, Value.int IntKind.u8 0, Value.int IntKind.u8 0, Value.int IntKind.u8 0, Value.int IntKind.u8 0, Value.int IntKind.u8 0, Value.int IntKind.u8 0, Value.int IntKind.u8 0, Value.int IntKind.u8 0, Value.int IntKind.u8 0, Value.int IntKind.u8 0] #[Value.int IntKind.u32 1779033703, Value.int IntKind.u32 3144134277, Value.int IntKind.u32 1013904242, Value.int IntKind.u32 2773480762, Value.int IntKind.u32 1359893119, Value.int IntKind.u32 2600822924, Value.int IntKind.u32 528734635, Value.int IntKind.u32 1541459225]
  have HW1 := hid hw1
  have hsz1' : w.heap.size + 2 ≤ w1.heap.size := by omega
  have hh1' : Blk w1 (w.heap.size + 1) 41 init32.cells := blk_cast hh1 (by kernel_rfl)
  have hlenE : sumLen ss = (flat ss).length := (length_flat ss).symm
  clear hw1 hsz1 hh1
  go_wp2_with fail
  rw [← HW1.out]
  clear HW1
  refine (each32_any (w.heap.size + 1) n c A ss init32 w1 (hs.below' hbel1) hh1' (hK.below hbel1 hgb) (by omega) hn hlen).mono ?_
  rintro e w2 ⟨rfl, hg2, hh2⟩
  rw [hlenE] at hh2
  obtain ⟨st, hst⟩ : ∃ st, st = blocks32 init32 (flat ss ++ padBytes (padLen 64 (flat ss).length) (flat ss).length) ((flat ss ++ padBytes (padLen 64 (flat ss).length) (flat ss).length).length / 64) := ⟨_, rfl⟩
  rw [← hst] at hh2
  have HST := hid hst
  clear hst hlenE
  have hbel2 : Below w.heap.size w w2 := below_grown hbel1 hg2 hbel1.size (by omega)
  have hr2 := hr1.gro hg2 (by omega)
  have hsz2 : w.heap.size + 2 ≤ w2.heap.size := Nat.le_trans hsz1' hg2.size
  clear hg2 hbel1 hr1 hh1' hsz1'
  go_wp2
  go_loopw [10] (fun i wr => ∃ k : Nat, k ≤ 8 ∧ i = .int .i64 k ∧ Below w.heap.size w wr ∧ Blk wr w.heap.size 24 #[Value.int IntKind.u8 0, Value.int IntKind.u8 0, Value.int IntKind.u8 0, Value.int IntKind.u8 0, Value.int IntKind.u8 0, Value.int IntKind.u8 0, Value.int IntKind.u8 0, Value.int IntKind.u8 0, Value.int IntKind.u8 0, Value.int IntKind.u8 0, Value.int IntKind.u8 0, Value.int IntKind.u8 0, Value.int IntKind.u8 0, Value.int IntKind.u8 0, Value.int IntKind.u8 0, Value.int IntKind.u8 0, Value.int IntKind.u8 0, Value.int IntKind.u8 0, Value.int IntKind.u8 0, Value.int IntKind.u8 0, Value.int IntKind.u8 0, Value.int IntKind.u8 0, Value.int IntKind.u8 0, Value.int IntKind.u8 0, Value.int IntKind.u8 0, Value.int IntKind.u8 0, Value.int IntKind.u8 0, Value.int IntKind.u8 0, Value.int IntKind.u8 0, Value.int IntKind.u8 0, Value.int IntKind.u8 0, Value.int IntKind.u8 0] ∧ Blk wr (w.heap.size + 1) 41 st.cells ∧ Blk wr w2.heap.size 24 (mixF (fun _ => U8 0) (fun j => U8 (dig32 st j)) 32 (4 * k))) (fun i _ => 8 - (intOf i).toNat)
  case atStart => exact ⟨0, Nat.zero_le _, rfl, hbel2.alloc (by omega) _, hr2.alloc _, hh2.alloc _, blk_cast (Blk.new w2 24 _) (mix0_dig32 st)⟩
  case round =>
    clear hbel2 hr2 hh2
    obtain ⟨k, hk, rfl, hbel, hr, hh, hd⟩ := hrel
    by_cases hlt : k < 8
    · have hch := cell_st32 hh k hlt
      have hmin : (4 * k + 4 : Nat) - 4 * k = 4 := by omega
      have HM := hid hmin
      clear hmin
      go_wp2
      have b0 : (0 : Int) ≤ 4 * (k : Int) := by omega
      have b1 : (0 : Int) ≤ 4 * (k : Int) + 4 := by omega
      have b2 : 4 * (k : Int) + 4 ≤ 32 := by omega
      have b3 : 4 * (k : Int) ≤ 4 * (k : Int) + 4 := by omega
      have t1 : (4 * (k : Int)).toNat = 4 * k := by omega
      have t2 : (4 * (k : Int) + 4).toNat = 4 * k + 4 := by omega
      have n1 : IntKind.i64.wrap (4 * (k : Int)) = 4 * (k : Int) := IntWalk.i64_in _ (by omega)
      have n2 : IntKind.i64.wrap (4 * (k : Int) + 4) = 4 * (k : Int) + 4 := IntWalk.i64_in _ (by omega)
      refine region_tail 9 (by kernel_rfl) (by kernel_rfl) ?_
      simp only [List.take_succ_cons, List.take_zero, List.drop_succ_cons, List.drop_zero]
      repeat still_step
      refine wpStill_nil ?_
      clear b0 b1 b2 b3 t1 t2 n1 n2
      go_wp2_with fail
      refine (putWord32_any w2.heap.size (4 * k) 4 _ 24 _ (stN32 st k) wr.drew hd.drew (by omega) (by rw [size_mixF]; omega)).mono ?_
      rintro e wy ⟨rfl, hgy, hdy⟩
      rw [put_dig32 _ _ hlt] at hdy
      have hbely := below_grown hbel.drew hgy hbel.size (by omega)
      have hry := hr.drew.gro hgy (by omega)
      have hhy := hh.drew.gro hgy (by omega)
      clear hgy hbel hr hh hd hch
      go_wp2
      go_roundw
      case rel => exact ⟨k + 1, by omega, by go_num, hbely, hry, hhy, hdy⟩
      case measure => simp [intOf]; omega
    · have hd2 : decide ((k : Int) < 8) = false := by simp; omega
      have hd3 : Blk wr w2.heap.size 24 ((digest32 st).map U8).toArray := by
        rw [show k = 8 by omega, mix_dig32] at hd; exact hd
      clear hd hh
      have hL := length_digest32 st
      obtain ⟨D, hD⟩ : ∃ D, D = digest32 st := ⟨_, rfl⟩
      rw [← hD] at hd3 hL
      have HD := hid hD
      have HL := hid hL
      clear hD hL
      go_wp2_with (first
        | (refine wpList_load_blk rfl 24 (.tmp 4) rfl w2.heap.size rfl 24 _ _ hd3 Tryd.underlying24 rfl (size24 _ HL.out) ?_)
        | (refine wpList_store_blk rfl 24 (.tmp 2) (.tmp 24) rfl w.heap.size _ rfl rfl 24 _ hr (size24 _ HL.out) (by simp [HL.out]) (oneCell_bytes32 _) ?_
           intro wz hbz hgz
           have hbelz := below_grown hbel hgz hbel.size (Nat.le_refl _)))
      exact bodyPost_ret (results_cell_row rfl _ _ w.heap.size 24 _ (0, 0) _ rfl hbz Tryd.underlying24 rfl (size24 _ HL.out)) rfl ⟨by rw [sha256, ← HST.out, ← HD.out], hbelz⟩
end Go.Proofs.YtghjndcbnnbloaaDoor
