/-
  The message schedules of both hash functions, walked.
-/
import Derived.Test.YtghjndcbnnbloaaDoorRd
import Derived.Test.YtghjndcbnnbloaaDoorWd
namespace Go.Proofs.YtghjndcbnnbloaaDoor
open Go.RowKit
attribute [local go_sem] and_n32 or_n32 xor_n32 not_n32 add_n32 add_n32' wrap_n32 and_n64 or_n64 xor_n64 not_n64 add_n64 add_n64' wrap_n64

theorem oneCell_row32 (n : Nat) (l : List UInt32) : (rowOf U32 0 n l).all (·.oneCell') = true := by
  rw [Array.all_eq_true]
  intro i hi
  have h := get_rowOf U32 0 n l i (by simpa [size_rowOf] using hi)
  rw [Array.getElem?_eq_getElem hi] at h
  rw [Option.some.inj h]; rfl
theorem readWord32_n (b o n c : Nat) (bs : List UInt8) (w : World) (hb : Bytes w b o bs) (hn : bs.length = n) (hl : n ≤ 1000) :
    Calls Tryd.prog 46 #[.slice (some ⟨b, o, none⟩) n c] w fun e w' => e = .returned (U32 (be32 bs)) ∧ w = w' := by
  subst hn; exact readWord32_any b o c bs w hb hl
theorem zero56 : ∀ w, (zeroValue 56).run Tryd.prog w = .ok (.agg (rowOf U32 0 64 [])) w := fun _ => by kernel_rfl
theorem size56 (l : List UInt32) : (Tryd.prog.info? 56).map (·.size) = some (rowOf U32 0 64 l).size := by rw [size_rowOf]; kernel_rfl
theorem info56 : (Tryd.prog.info? 56).map (·.size) = some 64 := by kernel_rfl

set_option maxHeartbeats 2000000 in
set_option maxRecDepth 100000 in
theorem sched32_any (b o c : Nat) (bs : List UInt8) (w : World) (hb : Bytes w b o bs) (hl : bs.length = 64) (hcap : 64 ≤ c) (hblk : b < w.heap.size) :
    Calls Tryd.prog 37 #[.slice (some ⟨b, o, none⟩) 64 c] w fun e w' => e = .returned (.agg (rowOf U32 0 64 (sched32 (words32 bs 16) 48))) ∧ Below w.heap.size w w' := by
  go_enter Tryd.func37, Tryd.ntmps37
  go_wp2
  go_loopw [10] (fun i wr => ∃ k : Nat, k ≤ 16 ∧ i = .int .i64 k ∧ Below w.heap.size w wr ∧ Blk wr w.heap.size 56 (rowOf U32 0 64 []) ∧ Blk wr (w.heap.size + 1) 56 (rowOf U32 0 64 (words32 bs k))) (fun i _ => 16 - (intOf i).toNat)
  case atStart =>
    exact ⟨0, Nat.zero_le _, rfl, ((Below.refl _ _).alloc (Nat.le_refl _) _).alloc (by simp) _, blk_cast ((Blk.new w 56 _).alloc _) (by kernel_rfl), blk_cast (by simpa using Blk.new (w.alloc _) 56 _) (by kernel_rfl)⟩
  case round =>
    obtain ⟨k, hk, rfl, hbel, hz, hbk⟩ := hrel
    by_cases hlt : k < 16
    · obtain ⟨u, hc⟩ : ∃ u, wr.cell? ⟨w.heap.size + 1, k, none⟩ = some u := by
        rw [hbk.cell, get_rowOf _ _ _ _ _ (by omega)]; exact ⟨_, rfl⟩
      have hf := hbk.frozen k
      have hby : Bytes wr b (o + 4 * k) ((bs.drop (4 * k)).take 4) := (hb.below hbel hblk).sub _ _
      have hle : ((bs.drop (4 * k)).take 4).length = 4 := by simp; omega
      have hnew : Blk (wr.setCell ⟨w.heap.size + 1, k, none⟩ (U32 (be32 ((bs.drop (4 * k)).take 4)))) (w.heap.size + 1) 56 (rowOf U32 0 64 (words32 bs (k + 1))) := by
        rw [words32_succ, ← push_rowOf _ _ _ _ k _ (length_words32 bs k).symm]
        exact hbk.set_ _ _
      go_wp2_with fail
      refine (readWord32_n _ _ _ _ _ _ hby hle (by omega)).mono ?_
      rintro e w' ⟨rfl, rfl⟩
      go_wp2
      go_roundw
      case rel => exact ⟨k + 1, by omega, by go_num, hbel.setCell (by simp) _, hz.far (by simp) _, hnew⟩
      case measure => simp [intOf]; omega
    · have hd : decide ((k : Int) < 16) = false := by simp; omega
      have hbk2 : Blk wr (w.heap.size + 1) 56 (rowOf U32 0 64 (words32 bs 16)) := by rw [show 16 = k by omega]; exact hbk
      clear hbk
      go_wp2
      clear hlt hd
      go_loopw [24] (fun i wx => ∃ k : Nat, k ≤ 48 ∧ i = .int .i64 k ∧ Below w.heap.size w wx ∧ Blk wx w.heap.size 56 (rowOf U32 0 64 []) ∧ Blk wx (w.heap.size + 1) 56 (rowOf U32 0 64 (sched32 (words32 bs 16) k))) (fun i _ => 48 - (intOf i).toNat)
      case atStart => exact ⟨0, Nat.zero_le _, rfl, hbel, hz, hbk2⟩
      case round =>
        clear hbel hz hbk2
        obtain ⟨j, hj, rfl, hbel, hz, hbk⟩ := hrel
        by_cases hlt : j < 48
        · obtain ⟨u, hc⟩ : ∃ u, wr.cell? ⟨w.heap.size + 1, j + 16, none⟩ = some u := by
            rw [hbk.cell, get_rowOf _ _ _ _ _ (by omega)]; exact ⟨_, rfl⟩
          have hf := hbk.frozen (j + 16)
          have hx := (hbk.cell (j + 1)).trans (get_rowOf _ _ _ _ _ (by omega))
          have hy := (hbk.cell (j + 14)).trans (get_rowOf _ _ _ _ _ (by omega))
          have h9 := (hbk.cell (j + 9)).trans (get_rowOf _ _ _ _ _ (by omega))
          have h0 := (hbk.cell j).trans (get_rowOf _ _ _ _ _ (by omega))
          have hlen := length_sched32 (words32 bs 16) j
          rw [length_words32] at hlen
          obtain ⟨x, ex⟩ : ∃ x, x = (sched32 (words32 bs 16) j).getD (j + 1) 0 := ⟨_, rfl⟩
          obtain ⟨y, ey⟩ : ∃ x, x = (sched32 (words32 bs 16) j).getD (j + 14) 0 := ⟨_, rfl⟩
          obtain ⟨x9, e9⟩ : ∃ x, x = (sched32 (words32 bs 16) j).getD (j + 9) 0 := ⟨_, rfl⟩
          obtain ⟨x0, e0⟩ : ∃ x, x = (sched32 (words32 bs 16) j).getD j 0 := ⟨_, rfl⟩
          rw [← ex] at hx
          rw [← ey] at hy
          rw [← e9] at h9
          rw [← e0] at h0
          have hnew : ∀ n, Blk ((wr.drewN n).setCell ⟨w.heap.size + 1, j + 16, none⟩ (U32 (sig1_32 y + x9 + sig0_32 x + x0))) (w.heap.size + 1) 56 (rowOf U32 0 64 (sched32 (words32 bs 16) (j + 1))) := by
            intro n
            rw [sched32, schedStep32, ← ex, ← ey, ← e9, ← e0, ← push_rowOf _ _ _ _ (j + 16) _ (by omega)]
            exact (hbk.drewN n).set_ _ _
          have hs0 : n32 x / (8 : Int) = n32 (x >>> 3) := by have := shr_n32 x 3 (by omega); simpa using this
          have hs1 : n32 y / (1024 : Int) = n32 (y >>> 10) := by have := shr_n32 y 10 (by omega); simpa using this
          clear ex ey e9 e0 hlen
          go_wp2
          go_quiet (fail)
          go_wp2_with (go_at_call 38; refine (rotr32_int _ _ _ (by omega) (by omega)).mono ?_; rintro e w' ⟨rfl, rfl⟩)
          go_region
          go_wp2
          go_roundw
          case rel => exact ⟨j + 1, by omega, by go_num, (below_drewN hbel _).setCell (by simp) _, (hz.drewN _).far (by simp) _, hnew _⟩
          case measure => simp [intOf]; omega
        · have hd : decide ((j : Int) < 48) = false := by simp; omega
          have hbk2 : Blk wr (w.heap.size + 1) 56 (rowOf U32 0 64 (sched32 (words32 bs 16) 48)) := by rw [show 48 = j by omega]; exact hbk
          clear hbk
          go_wp2_with (first
            | (refine wpList_load_row rfl 56 _ rfl (w.heap.size + 1) rfl 56 _ (0, 0) _ hbk2 Tryd.underlying56 rfl (size56 _) ?_)
            | (refine wpList_store_row rfl 56 _ _ rfl w.heap.size _ rfl rfl 56 _ hz (size56 _) (by rw [size_rowOf, size_rowOf]) (oneCell_row32 _ _) ?_))
          exact bodyPost_ret (results_cell_row rfl _ _ w.heap.size 56 _ (0, 0) _ rfl (hz.row _) Tryd.underlying56 rfl (size56 _)) rfl ⟨rfl, hbel.trans ⟨rfl, rfl, rfl, by simp [World.setRow], fun g hg => setRow_other wr w.heap.size g _ (by omega)⟩⟩

theorem oneCell_row64 (n : Nat) (l : List UInt64) : (rowOf U64 0 n l).all (·.oneCell') = true := by
  rw [Array.all_eq_true]
  intro i hi
  have h := get_rowOf U64 0 n l i (by simpa [size_rowOf] using hi)
  rw [Array.getElem?_eq_getElem hi] at h
  rw [Option.some.inj h]; rfl
theorem readWord64_n (b o n c : Nat) (bs : List UInt8) (w : World) (hb : Bytes w b o bs) (hn : bs.length = n) (hl : n ≤ 1000) :
    Calls Tryd.prog 48 #[.slice (some ⟨b, o, none⟩) n c] w fun e w' => e = .returned (U64 (be64 bs)) ∧ w = w' := by
  subst hn; exact readWord64_any b o c bs w hb hl
theorem zero61 : ∀ w, (zeroValue 61).run Tryd.prog w = .ok (.agg (rowOf U64 0 80 [])) w := fun _ => by kernel_rfl
theorem size61 (l : List UInt64) : (Tryd.prog.info? 61).map (·.size) = some (rowOf U64 0 80 l).size := by rw [size_rowOf]; kernel_rfl
theorem info61 : (Tryd.prog.info? 61).map (·.size) = some 80 := by kernel_rfl

set_option maxHeartbeats 2000000 in
set_option maxRecDepth 100000 in
theorem sched64_any (b o c : Nat) (bs : List UInt8) (w : World) (hb : Bytes w b o bs) (hl : bs.length = 128) (hcap : 128 ≤ c) (hblk : b < w.heap.size) :
    Calls Tryd.prog 40 #[.slice (some ⟨b, o, none⟩) 128 c] w fun e w' => e = .returned (.agg (rowOf U64 0 80 (sched64 (words64 bs 16) 64))) ∧ Below w.heap.size w w' := by
  have hz0 := zero61
  go_enter Tryd.func40, Tryd.ntmps40
  go_wp2
  go_loopw [10] (fun i wr => ∃ k : Nat, k ≤ 16 ∧ i = .int .i64 k ∧ Below w.heap.size w wr ∧ Blk wr w.heap.size 61 (rowOf U64 0 80 []) ∧ Blk wr (w.heap.size + 1) 61 (rowOf U64 0 80 (words64 bs k))) (fun i _ => 16 - (intOf i).toNat)
  case atStart =>
    exact ⟨0, Nat.zero_le _, rfl, ((Below.refl _ _).alloc (Nat.le_refl _) _).alloc (by simp) _, blk_cast ((Blk.new w 61 _).alloc _) (by kernel_rfl), blk_cast (by simpa using Blk.new (w.alloc _) 61 _) (by kernel_rfl)⟩
  case round =>
    obtain ⟨k, hk, rfl, hbel, hz, hbk⟩ := hrel
    by_cases hlt : k < 16
    · obtain ⟨u, hc⟩ : ∃ u, wr.cell? ⟨w.heap.size + 1, k, none⟩ = some u := by
        rw [hbk.cell, get_rowOf _ _ _ _ _ (by omega)]; exact ⟨_, rfl⟩
      have hf := hbk.frozen k
      have hby : Bytes wr b (o + 8 * k) ((bs.drop (8 * k)).take 8) := (hb.below hbel hblk).sub _ _
      have hle : ((bs.drop (8 * k)).take 8).length = 8 := by simp; omega
      have hnew : Blk (wr.setCell ⟨w.heap.size + 1, k, none⟩ (U64 (be64 ((bs.drop (8 * k)).take 8)))) (w.heap.size + 1) 61 (rowOf U64 0 80 (words64 bs (k + 1))) := by
        rw [words64_succ, ← push_rowOf _ _ _ _ k _ (length_words64 bs k).symm]
        exact hbk.set_ _ _
      go_wp2_with fail
      refine (readWord64_n _ _ _ _ _ _ hby hle (by omega)).mono ?_
      rintro e w' ⟨rfl, rfl⟩
      go_wp2
      go_roundw
      case rel => exact ⟨k + 1, by omega, by go_num, hbel.setCell (by simp) _, hz.far (by simp) _, hnew⟩
      case measure => simp [intOf]; omega
    · have hd : decide ((k : Int) < 16) = false := by simp; omega
      have hbk2 : Blk wr (w.heap.size + 1) 61 (rowOf U64 0 80 (words64 bs 16)) := by rw [show 16 = k by omega]; exact hbk
      clear hbk
      go_wp2
      clear hlt hd
      go_loopw [24] (fun i wx => ∃ k : Nat, k ≤ 64 ∧ i = .int .i64 k ∧ Below w.heap.size w wx ∧ Blk wx w.heap.size 61 (rowOf U64 0 80 []) ∧ Blk wx (w.heap.size + 1) 61 (rowOf U64 0 80 (sched64 (words64 bs 16) k))) (fun i _ => 64 - (intOf i).toNat)
      case atStart => exact ⟨0, Nat.zero_le _, rfl, hbel, hz, hbk2⟩
      case round =>
        clear hbel hz hbk2
        obtain ⟨j, hj, rfl, hbel, hz, hbk⟩ := hrel
        by_cases hlt : j < 64
        · obtain ⟨u, hc⟩ : ∃ u, wr.cell? ⟨w.heap.size + 1, j + 16, none⟩ = some u := by
            rw [hbk.cell, get_rowOf _ _ _ _ _ (by omega)]; exact ⟨_, rfl⟩
          have hf := hbk.frozen (j + 16)
          have hx := (hbk.cell (j + 1)).trans (get_rowOf _ _ _ _ _ (by omega))
          have hy := (hbk.cell (j + 14)).trans (get_rowOf _ _ _ _ _ (by omega))
          have h9 := (hbk.cell (j + 9)).trans (get_rowOf _ _ _ _ _ (by omega))
          have h0 := (hbk.cell j).trans (get_rowOf _ _ _ _ _ (by omega))
          have hlen := length_sched64 (words64 bs 16) j
          rw [length_words64] at hlen
          obtain ⟨x, ex⟩ : ∃ x, x = (sched64 (words64 bs 16) j).getD (j + 1) 0 := ⟨_, rfl⟩
          obtain ⟨y, ey⟩ : ∃ x, x = (sched64 (words64 bs 16) j).getD (j + 14) 0 := ⟨_, rfl⟩
          obtain ⟨x9, e9⟩ : ∃ x, x = (sched64 (words64 bs 16) j).getD (j + 9) 0 := ⟨_, rfl⟩
          obtain ⟨x0, e0⟩ : ∃ x, x = (sched64 (words64 bs 16) j).getD j 0 := ⟨_, rfl⟩
          rw [← ex] at hx
          rw [← ey] at hy
          rw [← e9] at h9
          rw [← e0] at h0
          have hnew : ∀ n, Blk ((wr.drewN n).setCell ⟨w.heap.size + 1, j + 16, none⟩ (U64 (sig1_64 y + x9 + sig0_64 x + x0))) (w.heap.size + 1) 61 (rowOf U64 0 80 (sched64 (words64 bs 16) (j + 1))) := by
            intro n
            rw [sched64, schedStep64, ← ex, ← ey, ← e9, ← e0, ← push_rowOf _ _ _ _ (j + 16) _ (by omega)]
            exact (hbk.drewN n).set_ _ _
          have hs0 : n64 x / (128 : Int) = n64 (x >>> 7) := by have := shr_n64 x 7 (by omega); simpa using this
          have hs1 : n64 y / (64 : Int) = n64 (y >>> 6) := by have := shr_n64 y 6 (by omega); simpa using this
          clear ex ey e9 e0 hlen
          go_wp2
          go_quiet (fail)
          go_wp2_with (go_at_call 41; refine (rotr64_int _ _ _ (by omega) (by omega)).mono ?_; rintro e w' ⟨rfl, rfl⟩)
          go_region
          go_wp2
          go_roundw
          case rel => exact ⟨j + 1, by omega, by go_num, (below_drewN hbel _).setCell (by simp) _, (hz.drewN _).far (by simp) _, hnew _⟩
          case measure => simp [intOf]; omega
        · have hd : decide ((j : Int) < 64) = false := by simp; omega
          have hbk2 : Blk wr (w.heap.size + 1) 61 (rowOf U64 0 80 (sched64 (words64 bs 16) 64)) := by rw [show 64 = j by omega]; exact hbk
          clear hbk
          go_wp2_with (first
            | (refine wpList_load_row rfl 61 _ rfl (w.heap.size + 1) rfl 61 _ (0, 0) _ hbk2 Tryd.underlying61 rfl (size61 _) ?_)
            | (refine wpList_store_row rfl 61 _ _ rfl w.heap.size _ rfl rfl 61 _ hz (size61 _) (by rw [size_rowOf, size_rowOf]) (oneCell_row64 _ _) ?_))
          exact bodyPost_ret (results_cell_row rfl _ _ w.heap.size 61 _ (0, 0) _ rfl (hz.row _) Tryd.underlying61 rfl (size61 _)) rfl ⟨rfl, hbel.trans ⟨rfl, rfl, rfl, by simp [World.setRow], fun g hg => setRow_other wr w.heap.size g _ (by omega)⟩⟩

end Go.Proofs.YtghjndcbnnbloaaDoor
