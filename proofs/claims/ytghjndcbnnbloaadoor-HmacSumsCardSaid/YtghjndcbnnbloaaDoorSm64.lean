/-
  Sum512, walked.
-/
import Derived.Test.YtghjndcbnnbloaaDoorEb64
namespace Go.Proofs.YtghjndcbnnbloaaDoor
open Go.RowKit
attribute [local go_sem] and_n32 or_n32 xor_n32 not_n32 add_n32 add_n32' wrap_n32 and_n64 or_n64 xor_n64 not_n64 add_n64 add_n64' wrap_n64

def init64 : St64 := { v0 := 0x6a09e667f3bcc908, v1 := 0xbb67ae8584caa73b, v2 := 0x3c6ef372fe94f82b, v3 := 0xa54ff53a5f1d36f1, v4 := 0x510e527fade682d1, v5 := 0x9b05688c2b3e6c1f, v6 := 0x1f83d9abfb41bd6b, v7 := 0x5be0cd19137e2179 }
def dig64 (s : St64) (j : Nat) : UInt8 := byte64 (stN64 s (j / 8)) (7 - j % 8)
def digest64 (s : St64) : List UInt8 := (List.range 64).map (dig64 s)
/-- The hash of a list of bytes. -/
def sha512 (T : List UInt8) : List UInt8 :=
  digest64 (blocks64 init64 (T ++ padBytes (padLen 128 T.length) T.length) ((T ++ padBytes (padLen 128 T.length) T.length).length / 128))
theorem length_sha512 (T : List UInt8) : (sha512 T).length = 64 := by simp [sha512, digest64]
theorem put_dig64 (s : St64) (i : Nat) (hi : i < 8) :
    put64 (mixF (fun _ => U8 0) (fun j => U8 (dig64 s j)) 64 (8 * i)) (8 * i) 8 (stN64 s i) 8 = mixF (fun _ => U8 0) (fun j => U8 (dig64 s j)) 64 (8 * (i + 1)) := by
  apply Array.ext_getElem?
  intro j
  rw [get_put64 _ _ _ _ (by rw [size_mixF]; omega) _ _ (Nat.le_refl _)]
  by_cases hj : j < 64
  · rw [get_mixF _ _ _ _ _ hj, get_mixF _ _ _ _ _ hj]
    by_cases h : 8 * i + 8 - 8 ≤ j ∧ j < 8 * i + 8
    · rw [if_pos h, if_pos (by omega)]
      unfold dig64
      rw [show j / 8 = i by omega, show 8 * i + 8 - 1 - j = 7 - j % 8 by omega]
    · rw [if_neg h]
      by_cases h2 : j < 8 * i
      · rw [if_pos h2, if_pos (by omega)]
      · rw [if_neg h2, if_neg (by omega)]
  · rw [if_neg (by omega)]
    rw [Array.getElem?_eq_none (by rw [size_mixF]; omega), Array.getElem?_eq_none (by rw [size_mixF]; omega)]
theorem mix_dig64 (s : St64) : mixF (fun _ => U8 0) (fun j => U8 (dig64 s j)) 64 (8 * 8) = ((digest64 s).map U8).toArray := by
  apply Array.ext_getElem?
  intro j
  by_cases hj : j < 64
  · rw [get_mixF _ _ _ _ _ hj, if_pos (by omega)]; simp [digest64, hj]
  · rw [Array.getElem?_eq_none (by rw [size_mixF]; omega), Array.getElem?_eq_none (by simp [digest64]; omega)]
theorem size26 (L : List UInt8) (h : L.length = 64) : (Tryd.prog.info? 26).map (·.size) = some ((L.map U8).toArray).size := by
  simp only [List.size_toArray, List.length_map, h]; kernel_rfl
theorem oneCell_bytes64 (L : List UInt8) : ((L.map U8).toArray).all (·.oneCell') = true := by simp [Value.oneCell']
theorem length_digest64 (s : St64) : (digest64 s).length = 64 := by simp [digest64]
theorem mix0_dig64 (s : St64) : #[Value.int IntKind.u8 0, Value.int IntKind.u8 0, Value.int IntKind.u8 0, Value.int IntKind.u8 0, Value.int IntKind.u8 0, Value.int IntKind.u8 0, Value.int IntKind.u8 0, Value.int IntKind.u8 0, Value.int IntKind.u8 0, Value.int IntKind.u8 0, Value.int IntKind.u8 0, Value.int IntKind.u8 0, Value.int IntKind.u8 0, Value.int IntKind.u8 0, Value.int IntKind.u8 0, Value.int IntKind.u8 0, Value.int IntKind.u8 0, Value.int IntKind.u8 0, Value.int IntKind.u8 0, Value.int IntKind.u8 0, Value.int IntKind.u8 0, Value.int IntKind.u8 0, Value.int IntKind.u8 0, Value.int IntKind.u8 0, Value.int IntKind.u8 0, Value.int IntKind.u8 0, Value.int IntKind.u8 0, Value.int IntKind.u8 0, Value.int IntKind.u8 0, Value.int IntKind.u8 0, Value.int IntKind.u8 0, Value.int IntKind.u8 0, Value.int IntKind.u8 0, Value.int IntKind.u8 0, Value.int IntKind.u8 0, Value.int IntKind.u8 0, Value.int IntKind.u8 0, Value.int IntKind.u8 0, Value.int IntKind.u8 0, Value.int IntKind.u8 0, Value.int IntKind.u8 0, Value.int IntKind.u8 0, Value.int IntKind.u8 0, Value.int IntKind.u8 0, Value.int IntKind.u8 0, Value.int IntKind.u8 0, Value.int IntKind.u8 0, Value.int IntKind.u8 0, Value.int IntKind.u8 0, Value.int IntKind.u8 0, Value.int IntKind.u8 0, Value.int IntKind.u8 0, Value.int IntKind.u8 0, Value.int IntKind.u8 0, Value.int IntKind.u8 0, Value.int IntKind.u8 0, Value.int IntKind.u8 0, Value.int IntKind.u8 0, Value.int IntKind.u8 0, Value.int IntKind.u8 0, Value.int IntKind.u8 0, Value.int IntKind.u8 0, Value.int IntKind.u8 0, Value.int IntKind.u8 0] = mixF (fun _ => U8 0) (fun j => U8 (dig64 s j)) 64 (8 * 0) := by kernel_rfl

set_option maxHeartbeats 2000000 in
set_option maxRecDepth 100000 in
theorem sum512_any (n c : Nat) (A : Option Addr) (ss : List ByteArray) (w : World) (hs : Strs w A n c ss) (hK : KAt64 w) (hn : n ≤ 10000) (hlen : sumLen ss ≤ 4294967296) :
    Calls Tryd.prog 13 #[.slice A n c] w fun e w' => e = .returned (.agg ((sha512 (flat ss)).map U8).toArray) ∧ Below w.heap.size w w' := by
  have hgb := hK.lt
  go_enter Tryd.func13, Tryd.ntmps13
  obtain ⟨w1, hw1, hbel1, hr1, hh1, hsz1⟩ := two_rows w 26 47 #[Value.int IntKind.u8 0, Value.int IntKind.u8 0, Value.int IntKind.u8 0, Value.int IntKind.u8 0, Value.int IntKind.u8 0, Value.int IntKind.u8 0, Value.int IntKind.u8 0, Value.int IntKind.u8 0, Value.int IntKind.u8 0, Value.int IntKind.u8 0, Value.int IntKind.u8 0, Value.int IntKind.u8 0, Value.int IntKind.u8 0, Value.int IntKind.u8 0, Value.int IntKind.u8 0, Value.int IntKind.u8 0, Value.int IntKind.u8 0, Value.int IntKind.u8 0, Value.int IntKind.u8 0, Value.int IntKind.u8 0, Value.int IntKind.u8 0, Value.int IntKind.u8 0, Value.int IntKind.u8 0, Value.int IntKind.u8 0, Value.int IntKind.u8 0, Value.int IntKind.u8 0, Value.int IntKind.u8 0, Value.int IntKind.u8 0, Value.int IntKind.u8 0, Value.int IntKind.u8 0, Value.int IntKind.u8 0, Value.int IntKind.u8 0, Value.int IntKind.u8 0, Value.int IntKind.u8 0, Value.int IntKind.u8 0, Value.int IntKind.u8 0, Value.int IntKind.u8 0, Value.int IntKind.u8 0, Value.int IntKind.u8 0, Value.int IntKind.u8 0, Value.int IntKind.u8 0, Value.int IntKind.u8 0, Value.int IntKind.u8 0, Value.int IntKind.u8 0, Value.int IntKind.u8 0, Value.int IntKind.u8 0, Value.int IntKind.u8 0, Value.int IntKind.u8 0, Value.int IntKind.u8 0, Value.int IntKind.u8 0, Value.int IntKind.u8 0, Value.int IntKind.u8 0, Value.int IntKind.u8 0, Value.int IntKind.u8 0, Value.int IntKind.u8 0, Value.int IntKind.u8 0, Value.int IntKind.u8 0, Value.int IntKind.u8 0, Value.int IntKind.u8 0, Value.int IntKind.u8 0, Value.int IntKind.u8 0, Value.int IntKind.u8 0, Value.int IntKind.u8 0, Value.int IntKind.u8 0] #[Value.int IntKind.u64 7640891576956012808, Value.int IntKind.u64 13503953896175478587, Value.int IntKind.u64 4354685564936845355, Value.int IntKind.u64 11912009170470909681, Value.int IntKind.u64 5840696475078001361, Value.int IntKind.u64 11170449401992604703, Value.int IntKind.u64 2270897969802886507, Value.int IntKind.u64 6620516959819538809]
  have HW1 := hid hw1
  have hsz1' : w.heap.size + 2 ≤ w1.heap.size := by omega
  have hh1' : Blk w1 (w.heap.size + 1) 47 init64.cells := blk_cast hh1 (by kernel_rfl)
  have hlenE : sumLen ss = (flat ss).length := (length_flat ss).symm
  clear hw1 hsz1 hh1
  go_wp2_with fail
  rw [← HW1.out]
  clear HW1
  refine (each64_any (w.heap.size + 1) n c A ss init64 w1 (hs.below' hbel1) hh1' (hK.below hbel1 hgb) (by omega) hn hlen).mono ?_
  rintro e w2 ⟨rfl, hg2, hh2⟩
  rw [hlenE] at hh2
  obtain ⟨st, hst⟩ : ∃ st, st = blocks64 init64 (flat ss ++ padBytes (padLen 128 (flat ss).length) (flat ss).length) ((flat ss ++ padBytes (padLen 128 (flat ss).length) (flat ss).length).length / 128) := ⟨_, rfl⟩
  rw [← hst] at hh2
  have HST := hid hst
  clear hst hlenE
  have hbel2 : Below w.heap.size w w2 := below_grown hbel1 hg2 hbel1.size (by omega)
  have hr2 := hr1.gro hg2 (by omega)
  have hsz2 : w.heap.size + 2 ≤ w2.heap.size := Nat.le_trans hsz1' hg2.size
  clear hg2 hbel1 hr1 hh1' hsz1'
  go_wp2
  go_loopw [10] (fun i wr => ∃ k : Nat, k ≤ 8 ∧ i = .int .i64 k ∧ Below w.heap.size w wr ∧ Blk wr w.heap.size 26 #[Value.int IntKind.u8 0, Value.int IntKind.u8 0, Value.int IntKind.u8 0, Value.int IntKind.u8 0, Value.int IntKind.u8 0, Value.int IntKind.u8 0, Value.int IntKind.u8 0, Value.int IntKind.u8 0, Value.int IntKind.u8 0, Value.int IntKind.u8 0, Value.int IntKind.u8 0, Value.int IntKind.u8 0, Value.int IntKind.u8 0, Value.int IntKind.u8 0, Value.int IntKind.u8 0, Value.int IntKind.u8 0, Value.int IntKind.u8 0, Value.int IntKind.u8 0, Value.int IntKind.u8 0, Value.int IntKind.u8 0, Value.int IntKind.u8 0, Value.int IntKind.u8 0, Value.int IntKind.u8 0, Value.int IntKind.u8 0, Value.int IntKind.u8 0, Value.int IntKind.u8 0, Value.int IntKind.u8 0, Value.int IntKind.u8 0, Value.int IntKind.u8 0, Value.int IntKind.u8 0, Value.int IntKind.u8 0, Value.int IntKind.u8 0, Value.int IntKind.u8 0, Value.int IntKind.u8 0, Value.int IntKind.u8 0, Value.int IntKind.u8 0, Value.int IntKind.u8 0, Value.int IntKind.u8 0, Value.int IntKind.u8 0, Value.int IntKind.u8 0, Value.int IntKind.u8 0, Value.int IntKind.u8 0, Value.int IntKind.u8 0, Value.int IntKind.u8 0, Value.int IntKind.u8 0, Value.int IntKind.u8 0, Value.int IntKind.u8 0, Value.int IntKind.u8 0, Value.int IntKind.u8 0, Value.int IntKind.u8 0, Value.int IntKind.u8 0, Value.int IntKind.u8 0, Value.int IntKind.u8 0, Value.int IntKind.u8 0, Value.int IntKind.u8 0, Value.int IntKind.u8 0, Value.int IntKind.u8 0, Value.int IntKind.u8 0, Value.int IntKind.u8 0, Value.int IntKind.u8 0, Value.int IntKind.u8 0, Value.int IntKind.u8 0, Value.int IntKind.u8 0, Value.int IntKind.u8 0] ∧ Blk wr (w.heap.size + 1) 47 st.cells ∧ Blk wr w2.heap.size 26 (mixF (fun _ => U8 0) (fun j => U8 (dig64 st j)) 64 (8 * k))) (fun i _ => 8 - (intOf i).toNat)
  case atStart => exact ⟨0, Nat.zero_le _, rfl, hbel2.alloc (by omega) _, hr2.alloc _, hh2.alloc _, blk_cast (Blk.new w2 26 _) (mix0_dig64 st)⟩
  case round =>
    clear hbel2 hr2 hh2
    obtain ⟨k, hk, rfl, hbel, hr, hh, hd⟩ := hrel
    by_cases hlt : k < 8
    · have hch := cell_st64 hh k hlt
      have hmin : (8 * k + 8 : Nat) - 8 * k = 8 := by omega
      have HM := hid hmin
      clear hmin
      go_wp2
      have b0 : (0 : Int) ≤ 8 * (k : Int) := by omega
      have b1 : (0 : Int) ≤ 8 * (k : Int) + 8 := by omega
      have b2 : 8 * (k : Int) + 8 ≤ 64 := by omega
      have b3 : 8 * (k : Int) ≤ 8 * (k : Int) + 8 := by omega
      have t1 : (8 * (k : Int)).toNat = 8 * k := by omega
      have t2 : (8 * (k : Int) + 8).toNat = 8 * k + 8 := by omega
      have n1 : IntKind.i64.wrap (8 * (k : Int)) = 8 * (k : Int) := IntWalk.i64_in _ (by omega)
      have n2 : IntKind.i64.wrap (8 * (k : Int) + 8) = 8 * (k : Int) + 8 := IntWalk.i64_in _ (by omega)
      refine region_tail 9 (by kernel_rfl) (by kernel_rfl) ?_
      simp only [List.take_succ_cons, List.take_zero, List.drop_succ_cons, List.drop_zero]
      repeat still_step
      refine wpStill_nil ?_
      clear b0 b1 b2 b3 t1 t2 n1 n2
      go_wp2_with fail
      refine (putWord64_any w2.heap.size (8 * k) 8 _ 26 _ (stN64 st k) wr.drew hd.drew (by omega) (by rw [size_mixF]; omega)).mono ?_
      rintro e wy ⟨rfl, hgy, hdy⟩
      rw [put_dig64 _ _ hlt] at hdy
      have hbely := below_grown hbel.drew hgy hbel.size (by omega)
      have hry := hr.drew.gro hgy (by omega)
      have hhy := hh.drew.gro hgy (by omega)
      clear hgy hbel hr hh hd hch
      go_wp2
      go_roundw
      case rel => exact ⟨k + 1, by omega, by go_num, hbely, hry, hhy, hdy⟩
      case measure => simp [intOf]; omega
    · have hd2 : decide ((k : Int) < 8) = false := by simp; omega
      have hd3 : Blk wr w2.heap.size 26 ((digest64 st).map U8).toArray := by
        rw [show k = 8 by omega, mix_dig64] at hd; exact hd
      clear hd hh
      have hL := length_digest64 st
      obtain ⟨D, hD⟩ : ∃ D, D = digest64 st := ⟨_, rfl⟩
      rw [← hD] at hd3 hL
      have HD := hid hD
      have HL := hid hL
      clear hD hL
      go_wp2_with (first
        | (refine wpList_load_blk rfl 26 (.tmp 4) rfl w2.heap.size rfl 26 _ _ hd3 Tryd.underlying26 rfl (size26 _ HL.out) ?_)
        | (refine wpList_store_blk rfl 26 (.tmp 2) (.tmp 24) rfl w.heap.size _ rfl rfl 26 _ hr (size26 _ HL.out) (by simp [HL.out]) (oneCell_bytes64 _) ?_
           intro wz hbz hgz
           have hbelz := below_grown hbel hgz hbel.size (Nat.le_refl _)))
      exact bodyPost_ret (results_cell_row rfl _ _ w.heap.size 26 _ (0, 0) _ rfl hbz Tryd.underlying26 rfl (size26 _ HL.out)) rfl ⟨by rw [sha512, ← HST.out, ← HD.out], hbelz⟩
end Go.Proofs.YtghjndcbnnbloaaDoor
