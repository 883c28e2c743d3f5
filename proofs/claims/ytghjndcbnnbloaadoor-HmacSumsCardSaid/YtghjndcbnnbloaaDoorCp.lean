/-
  The compression functions, walked.
-/
import Derived.Test.YtghjndcbnnbloaaDoorSc
import Derived.StillTailTactics
namespace Go.Proofs.YtghjndcbnnbloaaDoor
open Go.RowKit
attribute [local go_sem] and_n32 or_n32 xor_n32 not_n32 add_n32 add_n32' wrap_n32 and_n64 or_n64 xor_n64 not_n64 add_n64 add_n64' wrap_n64

theorem region_tail {P : Program} {id : Nat} {Q : Exit → Act → World → Prop} {a : Act} {w : World} {l : List Oper} (n : Nat) (hm : P.follows .mixedOrders = true) (hB : Region.lexTailB .any l.toArray n = true)
    (h : wpStill P l.toArray w.drew (fun a' => wpList P l.toArray Q (l.drop n) a' w.drew) (l.take n) a) : (Code.region id l.toArray true).wp P Q a w :=
  wp_region_still_tail n hm hB h
theorem quiet_add_same {P : Program} {f : FuncId} {args : Array Value} {w : World} {a n : Nat} {v : Value}
    (h : Calls P f args (w.drewN (a + n)) fun e w' => e = .returned v ∧ w' = w.drewN (a + n)) :
    Calls P f args (w.drewN (a + n)) fun e w'' => e = .returned v ∧ ∃ m, w'' = w.drewN (a + m) :=
  h.mono fun _ _ ⟨he, hm⟩ => ⟨he, n, hm⟩
theorem two_new (w : World) (t : TypeId) (A Z : Array Value) : ∃ w0 : World, w0 = (w.alloc (.cells A t)).alloc (.cells Z t) ∧ Below w.heap.size w w0 ∧ Blk w0 w.heap.size t A ∧ Blk w0 (w.heap.size + 1) t Z ∧ w0.heap.size = w.heap.size + 2 :=
  ⟨_, rfl, ((Below.refl _ _).alloc (Nat.le_refl _) _).alloc (by simp) _, (Blk.new w t A).alloc _, by simpa using Blk.new (w.alloc (.cells A t)) t Z, by simp⟩

theorem size_st32 (s : St32) : (Tryd.prog.info? 41).map (·.size) = some s.cells.size := by kernel_rfl
theorem oneCell_st32 (s : St32) : s.cells.all (·.oneCell') = true := by simp [St32.cells, Value.oneCell']
theorem rotr32_q (u : UInt32) (n : Int) (w : World) (h1 : 1 ≤ n) (h2 : n < 32) :
    Calls Tryd.prog 38 #[U32 u, .int .i64 n] w fun e w' => e = .returned (U32 (rotr32 u n.toNat)) ∧ w' = w :=
  (rotr32_int u n w h1 h2).mono fun _ _ h => ⟨h.1, h.2.symm⟩
def stN32 (s : St32) : Nat → UInt32
  | 0 => s.v0 | 1 => s.v1 | 2 => s.v2 | 3 => s.v3 | 4 => s.v4 | 5 => s.v5 | 6 => s.v6 | _ => s.v7
theorem cells_eq32 (s : St32) : s.cells = mixF (fun j => U32 (stN32 s j)) (fun j => U32 (stN32 s j)) 8 0 := by
  simp [St32.cells, mixF, Array.ofFn_succ]
  simp [stN32]
theorem mix_cells32 (s r : St32) : mixF (fun j => U32 (stN32 s j)) (fun j => U32 (stN32 s j + stN32 r j)) 8 8 = (addSt32 s r).cells := by rfl
theorem cell_st32 {w : World} {g t : Nat} {s : St32} (h : Blk w g t s.cells) (j : Nat) (hj : j < 8) : w.cell? ⟨g, j, none⟩ = some (U32 (stN32 s j)) := by
  rw [h.cell, cells_eq32, get_mixF _ _ _ _ _ hj]; simp

set_option maxHeartbeats 2000000 in
set_option maxRecDepth 100000 in
theorem compress32_any (b o c : Nat) (bs : List UInt8) (s : St32) (w : World) (hb : Bytes w b o bs) (hl : bs.length = 64) (hcap : 64 ≤ c) (hblk : b < w.heap.size)
    (hK : ∀ j, j < 64 → w.cell? ⟨0, j, none⟩ = some (U32 (K256.getD j 0))) :
    Calls Tryd.prog 26 #[.agg s.cells, .slice (some ⟨b, o, none⟩) 64 c] w fun e w' => e = .returned (.agg (comp32 s bs).cells) ∧ Below w.heap.size w w' := by
  have hgb : 0 < w.heap.size := block_lt_of_cell (hK 0 (by omega))
  obtain ⟨w0, hw0, hbel0, hb2, hb4, hsz⟩ := two_new w 41 s.cells #[Value.int IntKind.u32 0, Value.int IntKind.u32 0, Value.int IntKind.u32 0, Value.int IntKind.u32 0, Value.int IntKind.u32 0, Value.int IntKind.u32 0, Value.int IntKind.u32 0, Value.int IntKind.u32 0]
  have HW := hid hw0
  have hsz1 : w.heap.size + 2 ≤ w0.heap.size := by omega
  clear hw0 hsz
  go_enter Tryd.func26, Tryd.ntmps26
  go_wp2_with fail
  rw [← HW.out]
  clear HW
  refine (sched32_any b o c bs w0 (hb.below hbel0 hblk) hl hcap (by omega)).mono ?_
  rintro e w1 ⟨rfl, hb1⟩
  have hs1 := hb1.size
  have hbel1 : Below w.heap.size w w1 := hbel0.trans (hb1.mono (by omega))
  have hb2' := hb2.below hb1 (by omega)
  have hb4' := hb4.below hb1 (by omega)
  clear hb2 hb4 hb1 hbel0
  obtain ⟨ws, hws⟩ : ∃ ws, ws = sched32 (words32 bs 16) 48 := ⟨_, rfl⟩
  rw [← hws]
  have HWS := hid hws
  clear hws
  go_wp2_with (first
    | (refine wpList_store_blk rfl 56 (.tmp 5) (.tmp 12) rfl w1.heap.size _ rfl rfl 56 _ (Blk.new w1 56 _) (size56 _) (by simp [size_rowOf]) (oneCell_row32 _ _) ?_
       intro w2 hb5 hg2
       have hs2 := hg2.size
       simp only [World.size_alloc] at hs2
       have hbel2 := below_grown (hbel1.alloc (by omega) _) hg2 (by simp; omega) (by omega)
       have hb2a := (hb2'.alloc _).gro hg2 (by omega)
       have hb4a := (hb4'.alloc _).gro hg2 (by omega)
       clear hg2 hb2' hb4' hbel1)
    | (refine wpList_load_blk rfl 41 (.tmp 2) rfl w.heap.size rfl 41 _ _ hb2a Tryd.underlying41 rfl (size_st32 _) ?_)
    | (refine wpList_store_blk rfl 41 (.tmp 6) (.tmp 13) rfl w2.heap.size _ rfl rfl 41 _ (Blk.new w2 41 _) (size_st32 _) rfl (oneCell_st32 _) ?_
       intro w3 hb6 hg3
       have hs3 := hg3.size
       simp only [World.size_alloc] at hs3
       have hbel3 := below_grown (hbel2.alloc (by omega) _) hg3 (by simp; omega) (by omega)
       have hb2b := (hb2a.alloc _).gro hg3 (by omega)
       have hb4b := (hb4a.alloc _).gro hg3 (by omega)
       have hb5b := (hb5.alloc _).gro hg3 (by omega)
       clear hg3 hb2a hb4a hbel2 hb5))
  have hr0 : rounds32 ws s 0 = s := rfl
  go_loopw [14] (fun i wr => ∃ k : Nat, k ≤ 64 ∧ i = .int .i64 k ∧ Below w.heap.size w wr ∧ Blk wr w.heap.size 41 s.cells ∧ Blk wr (w.heap.size + 1) 41 #[Value.int IntKind.u32 0, Value.int IntKind.u32 0, Value.int IntKind.u32 0, Value.int IntKind.u32 0, Value.int IntKind.u32 0, Value.int IntKind.u32 0, Value.int IntKind.u32 0, Value.int IntKind.u32 0] ∧ Blk wr w1.heap.size 56 (rowOf U32 0 64 ws) ∧ Blk wr w2.heap.size 41 (rounds32 ws s k).cells) (fun i _ => 64 - (intOf i).toNat)
  case atStart => exact ⟨0, Nat.zero_le _, rfl, hbel3, hb2b, hb4b, hb5b, hb6⟩
  case round =>
    clear hbel3 hb2b hb4b hb5b hb6
    obtain ⟨k, hk, rfl, hbel, hb2, hb4, hb5, hb6⟩ := hrel
    by_cases hlt : k < 64
    · have hc0 : wr.cell? ⟨w2.heap.size, 0, none⟩ = some (U32 (rounds32 ws s k).v0) := cell_st32 hb6 0 (by omega)
      have hc4 : wr.cell? ⟨w2.heap.size, 4, none⟩ = some (U32 (rounds32 ws s k).v4) := cell_st32 hb6 4 (by omega)
      have hkk := (hbel.cell (p := ⟨0, k, none⟩) hgb).trans (hK k hlt)
      have hww := (hb5.cell k).trans (get_rowOf _ _ _ _ _ hlt)
      have hnx : rounds32 ws s (k + 1) = stepSt32 (rounds32 ws s k) (bigE0_32 (rounds32 ws s k).v0) (bigE1_32 (rounds32 ws s k).v4) (K256.getD k 0 + ws.getD k 0) := rfl
      obtain ⟨kk, hkk'⟩ : ∃ kk, kk = K256.getD k 0 := ⟨_, rfl⟩
      obtain ⟨wk, hwk'⟩ : ∃ wk, wk = ws.getD k 0 := ⟨_, rfl⟩
      rw [← hkk'] at hkk hnx
      rw [← hwk'] at hww hnx
      have HNX := hid hnx
      clear hkk' hwk' hnx
      go_wp2
      go_quiet ((go_at_call 38; exact Calls.quiet_of_same (rotr32_q _ _ _ (by omega) (by omega))))
      go_wp2
      go_quiet ((go_at_call 38; exact quiet_add_same (rotr32_q _ _ _ (by omega) (by omega))))
      go_wp2
      refine region_tail 9 (by kernel_rfl) (by kernel_rfl) ?_
      simp only [List.take_succ_cons, List.take_zero, List.drop_succ_cons, List.drop_zero]
      repeat still_step
      refine wpStill_nil ?_
      go_wp2_with fail
      refine (step32_any w2.heap.size 41 (rounds32 ws s k) _ _ _ _ (hb6.drewN _)).mono ?_
      rintro e wy ⟨rfl, hg, hb6n⟩
      have hbeln := below_grown (below_drewN hbel _) hg (by have := hbel.size; simpa using this) (by omega)
      have hb2n := (hb2.drewN _).gro hg (by omega)
      have hb4n := (hb4.drewN _).gro hg (by omega)
      have hb5n := (hb5.drewN _).gro hg (by omega)
      clear hg hbel hb2 hb4 hb5 hb6 hkk hww hc0 hc4
      go_wp2
      go_roundw
      case rel => exact ⟨k + 1, by omega, by go_num, hbeln, hb2n, hb4n, hb5n, by rw [HNX.out]; exact hb6n⟩
      case measure => simp [intOf]; omega
    · have hd : decide ((k : Int) < 64) = false := by simp; omega
      have hb7 : Blk wr w2.heap.size 41 (rounds32 ws s 64).cells := by rw [show 64 = k by omega]; exact hb6
      have hb8 : Blk wr w.heap.size 41 (mixF (fun j => U32 (stN32 s j)) (fun j => U32 (stN32 s j + stN32 (rounds32 ws s 64) j)) 8 0) := blk_cast hb2 (cells_eq32 s)
      clear hb6 hb2 hb5
      go_wp2
      clear hd
      go_loopw [50] (fun i wx => ∃ k : Nat, k ≤ 8 ∧ i = .int .i64 k ∧ Below w.heap.size w wx ∧ Blk wx w.heap.size 41 (mixF (fun j => U32 (stN32 s j)) (fun j => U32 (stN32 s j + stN32 (rounds32 ws s 64) j)) 8 k) ∧ Blk wx (w.heap.size + 1) 41 #[Value.int IntKind.u32 0, Value.int IntKind.u32 0, Value.int IntKind.u32 0, Value.int IntKind.u32 0, Value.int IntKind.u32 0, Value.int IntKind.u32 0, Value.int IntKind.u32 0, Value.int IntKind.u32 0] ∧ Blk wx w2.heap.size 41 (rounds32 ws s 64).cells) (fun i _ => 8 - (intOf i).toNat)
      case atStart => exact ⟨0, Nat.zero_le _, rfl, hbel, hb8, hb4, hb7⟩
      case round =>
        clear hbel hb8 hb4 hb7
        obtain ⟨j, hj, rfl, hbel, hb8, hb4, hb7⟩ := hrel
        by_cases hlt : j < 8
        · have hcs : wr.cell? ⟨w.heap.size, j, none⟩ = some (U32 (stN32 s j)) := by
            rw [hb8.cell, get_mixF _ _ _ _ _ hlt]; simp
          have hcr := cell_st32 hb7 j hlt
          have hf := hb8.frozen j
          have hnew : Blk (wr.setCell ⟨w.heap.size, j, none⟩ (U32 (stN32 s j + stN32 (rounds32 ws s 64) j))).drew w.heap.size 41 (mixF (fun j => U32 (stN32 s j)) (fun j => U32 (stN32 s j + stN32 (rounds32 ws s 64) j)) 8 (j + 1)) := by
            rw [← set_mixF]
            exact (hb8.set_ j _).drew
          go_wp2
          go_region
          go_wp2
          go_roundw
          case rel => exact ⟨j + 1, by omega, by go_num, (hbel.setCell (Nat.le_refl _) _).drew, hnew, (hb4.far (by simp) _).drew, (hb7.far (by simp; omega) _).drew⟩
          case measure => simp [intOf]; omega
        · have hd : decide ((j : Int) < 8) = false := by simp; omega
          have hb9 : Blk wr w.heap.size 41 (addSt32 s (rounds32 ws s 64)).cells := by
            rw [show j = 8 by omega, mix_cells32] at hb8; exact hb8
          clear hb8 hb7
          go_wp2_with (first
            | (refine wpList_load_blk rfl 41 (.tmp 2) rfl w.heap.size rfl 41 _ _ hb9 Tryd.underlying41 rfl (size_st32 _) ?_)
            | (refine wpList_store_blk rfl 41 (.tmp 4) (.tmp 62) rfl (w.heap.size + 1) _ rfl rfl 41 _ hb4 (size_st32 _) rfl (oneCell_st32 _) ?_
               intro wz hbz hgz
               have hbelz := below_grown hbel hgz hbel.size (by omega)))
          exact bodyPost_ret (results_cell_row rfl _ _ (w.heap.size + 1) 41 _ (0, 0) _ rfl hbz Tryd.underlying41 rfl (size_st32 _)) rfl ⟨by rw [comp32, ← HWS.out], hbelz⟩

theorem size_st64 (s : St64) : (Tryd.prog.info? 47).map (·.size) = some s.cells.size := by kernel_rfl
theorem oneCell_st64 (s : St64) : s.cells.all (·.oneCell') = true := by simp [St64.cells, Value.oneCell']
theorem rotr64_q (u : UInt64) (n : Int) (w : World) (h1 : 1 ≤ n) (h2 : n < 64) :
    Calls Tryd.prog 41 #[U64 u, .int .i64 n] w fun e w' => e = .returned (U64 (rotr64 u n.toNat)) ∧ w' = w :=
  (rotr64_int u n w h1 h2).mono fun _ _ h => ⟨h.1, h.2.symm⟩
def stN64 (s : St64) : Nat → UInt64
  | 0 => s.v0 | 1 => s.v1 | 2 => s.v2 | 3 => s.v3 | 4 => s.v4 | 5 => s.v5 | 6 => s.v6 | _ => s.v7
theorem cells_eq64 (s : St64) : s.cells = mixF (fun j => U64 (stN64 s j)) (fun j => U64 (stN64 s j)) 8 0 := by
  simp [St64.cells, mixF, Array.ofFn_succ]
  simp [stN64]
theorem mix_cells64 (s r : St64) : mixF (fun j => U64 (stN64 s j)) (fun j => U64 (stN64 s j + stN64 r j)) 8 8 = (addSt64 s r).cells := by rfl
theorem cell_st64 {w : World} {g t : Nat} {s : St64} (h : Blk w g t s.cells) (j : Nat) (hj : j < 8) : w.cell? ⟨g, j, none⟩ = some (U64 (stN64 s j)) := by
  rw [h.cell, cells_eq64, get_mixF _ _ _ _ _ hj]; simp

set_option maxHeartbeats 2000000 in
set_option maxRecDepth 100000 in
theorem compress64_any (b o c : Nat) (bs : List UInt8) (s : St64) (w : World) (hb : Bytes w b o bs) (hl : bs.length = 128) (hcap : 128 ≤ c) (hblk : b < w.heap.size)
    (hK : ∀ j, j < 80 → w.cell? ⟨1, j, none⟩ = some (U64 (K512.getD j 0))) :
    Calls Tryd.prog 29 #[.agg s.cells, .slice (some ⟨b, o, none⟩) 128 c] w fun e w' => e = .returned (.agg (comp64 s bs).cells) ∧ Below w.heap.size w w' := by
  have hgb : 1 < w.heap.size := block_lt_of_cell (hK 0 (by omega))
  obtain ⟨w0, hw0, hbel0, hb2, hb4, hsz⟩ := two_new w 47 s.cells #[Value.int IntKind.u64 0, Value.int IntKind.u64 0, Value.int IntKind.u64 0, Value.int IntKind.u64 0, Value.int IntKind.u64 0, Value.int IntKind.u64 0, Value.int IntKind.u64 0, Value.int IntKind.u64 0]
  have HW := hid hw0
  have hsz1 : w.heap.size + 2 ≤ w0.heap.size := by omega
  clear hw0 hsz
  go_enter Tryd.func29, Tryd.ntmps29
  go_wp2_with fail
  rw [← HW.out]
  clear HW
  refine (sched64_any b o c bs w0 (hb.below hbel0 hblk) hl hcap (by omega)).mono ?_
  rintro e w1 ⟨rfl, hb1⟩
  have hs1 := hb1.size
  have hbel1 : Below w.heap.size w w1 := hbel0.trans (hb1.mono (by omega))
  have hb2' := hb2.below hb1 (by omega)
  have hb4' := hb4.below hb1 (by omega)
  clear hb2 hb4 hb1 hbel0
  obtain ⟨ws, hws⟩ : ∃ ws, ws = sched64 (words64 bs 16) 64 := ⟨_, rfl⟩
  rw [← hws]
  have HWS := hid hws
  clear hws
  have hz0 := zero61
  go_wp2_with (first
    | (refine wpList_store_blk rfl 61 (.tmp 5) (.tmp 12) rfl w1.heap.size _ rfl rfl 61 _ (Blk.new w1 61 _) (size61 _) (by simp [size_rowOf]) (oneCell_row64 _ _) ?_
       intro w2 hb5 hg2
       have hs2 := hg2.size
       simp only [World.size_alloc] at hs2
       have hbel2 := below_grown (hbel1.alloc (by omega) _) hg2 (by simp; omega) (by omega)
       have hb2a := (hb2'.alloc _).gro hg2 (by omega)
       have hb4a := (hb4'.alloc _).gro hg2 (by omega)
       clear hg2 hb2' hb4' hbel1)
    | (refine wpList_load_blk rfl 47 (.tmp 2) rfl w.heap.size rfl 47 _ _ hb2a Tryd.underlying47 rfl (size_st64 _) ?_)
    | (refine wpList_store_blk rfl 47 (.tmp 6) (.tmp 13) rfl w2.heap.size _ rfl rfl 47 _ (Blk.new w2 47 _) (size_st64 _) rfl (oneCell_st64 _) ?_
       intro w3 hb6 hg3
       have hs3 := hg3.size
       simp only [World.size_alloc] at hs3
       have hbel3 := below_grown (hbel2.alloc (by omega) _) hg3 (by simp; omega) (by omega)
       have hb2b := (hb2a.alloc _).gro hg3 (by omega)
       have hb4b := (hb4a.alloc _).gro hg3 (by omega)
       have hb5b := (hb5.alloc _).gro hg3 (by omega)
       clear hg3 hb2a hb4a hbel2 hb5))
  have hr0 : rounds64 ws s 0 = s := rfl
  go_loopw [14] (fun i wr => ∃ k : Nat, k ≤ 80 ∧ i = .int .i64 k ∧ Below w.heap.size w wr ∧ Blk wr w.heap.size 47 s.cells ∧ Blk wr (w.heap.size + 1) 47 #[Value.int IntKind.u64 0, Value.int IntKind.u64 0, Value.int IntKind.u64 0, Value.int IntKind.u64 0, Value.int IntKind.u64 0, Value.int IntKind.u64 0, Value.int IntKind.u64 0, Value.int IntKind.u64 0] ∧ Blk wr w1.heap.size 61 (rowOf U64 0 80 ws) ∧ Blk wr w2.heap.size 47 (rounds64 ws s k).cells) (fun i _ => 80 - (intOf i).toNat)
  case atStart => exact ⟨0, Nat.zero_le _, rfl, hbel3, hb2b, hb4b, hb5b, hb6⟩
  case round =>
    clear hbel3 hb2b hb4b hb5b hb6
    obtain ⟨k, hk, rfl, hbel, hb2, hb4, hb5, hb6⟩ := hrel
    by_cases hlt : k < 80
    · have hc0 : wr.cell? ⟨w2.heap.size, 0, none⟩ = some (U64 (rounds64 ws s k).v0) := cell_st64 hb6 0 (by omega)
      have hc4 : wr.cell? ⟨w2.heap.size, 4, none⟩ = some (U64 (rounds64 ws s k).v4) := cell_st64 hb6 4 (by omega)
      have hkk := (hbel.cell (p := ⟨1, k, none⟩) hgb).trans (hK k hlt)
      have hww := (hb5.cell k).trans (get_rowOf _ _ _ _ _ hlt)
      have hnx : rounds64 ws s (k + 1) = stepSt64 (rounds64 ws s k) (bigE0_64 (rounds64 ws s k).v0) (bigE1_64 (rounds64 ws s k).v4) (K512.getD k 0 + ws.getD k 0) := rfl
      obtain ⟨kk, hkk'⟩ : ∃ kk, kk = K512.getD k 0 := ⟨_, rfl⟩
      obtain ⟨wk, hwk'⟩ : ∃ wk, wk = ws.getD k 0 := ⟨_, rfl⟩
      rw [← hkk'] at hkk hnx
      rw [← hwk'] at hww hnx
      have HNX := hid hnx
      clear hkk' hwk' hnx
      go_wp2
      go_quiet ((go_at_call 41; exact Calls.quiet_of_same (rotr64_q _ _ _ (by omega) (by omega))))
      go_wp2
      go_quiet ((go_at_call 41; exact quiet_add_same (rotr64_q _ _ _ (by omega) (by omega))))
      go_wp2
      refine region_tail 9 (by kernel_rfl) (by kernel_rfl) ?_
      simp only [List.take_succ_cons, List.take_zero, List.drop_succ_cons, List.drop_zero]
      repeat still_step
      refine wpStill_nil ?_
      go_wp2_with fail
      refine (step64_any w2.heap.size 47 (rounds64 ws s k) _ _ _ _ (hb6.drewN _)).mono ?_
      rintro e wy ⟨rfl, hg, hb6n⟩
      have hbeln := below_grown (below_drewN hbel _) hg (by have := hbel.size; simpa using this) (by omega)
      have hb2n := (hb2.drewN _).gro hg (by omega)
      have hb4n := (hb4.drewN _).gro hg (by omega)
      have hb5n := (hb5.drewN _).gro hg (by omega)
      clear hg hbel hb2 hb4 hb5 hb6 hkk hww hc0 hc4
      go_wp2
      go_roundw
      case rel => exact ⟨k + 1, by omega, by go_num, hbeln, hb2n, hb4n, hb5n, by rw [HNX.out]; exact hb6n⟩
      case measure => simp [intOf]; omega
    · have hd : decide ((k : Int) < 80) = false := by simp; omega
      have hb7 : Blk wr w2.heap.size 47 (rounds64 ws s 80).cells := by rw [show 80 = k by omega]; exact hb6
      have hb8 : Blk wr w.heap.size 47 (mixF (fun j => U64 (stN64 s j)) (fun j => U64 (stN64 s j + stN64 (rounds64 ws s 80) j)) 8 0) := blk_cast hb2 (cells_eq64 s)
      clear hb6 hb2 hb5
      go_wp2
      clear hd
      go_loopw [50] (fun i wx => ∃ k : Nat, k ≤ 8 ∧ i = .int .i64 k ∧ Below w.heap.size w wx ∧ Blk wx w.heap.size 47 (mixF (fun j => U64 (stN64 s j)) (fun j => U64 (stN64 s j + stN64 (rounds64 ws s 80) j)) 8 k) ∧ Blk wx (w.heap.size + 1) 47 #[Value.int IntKind.u64 0, Value.int IntKind.u64 0, Value.int IntKind.u64 0, Value.int IntKind.u64 0, Value.int IntKind.u64 0, Value.int IntKind.u64 0, Value.int IntKind.u64 0, Value.int IntKind.u64 0] ∧ Blk wx w2.heap.size 47 (rounds64 ws s 80).cells) (fun i _ => 8 - (intOf i).toNat)
      case atStart => exact ⟨0, Nat.zero_le _, rfl, hbel, hb8, hb4, hb7⟩
      case round =>
        clear hbel hb8 hb4 hb7
        obtain ⟨j, hj, rfl, hbel, hb8, hb4, hb7⟩ := hrel
        by_cases hlt : j < 8
        · have hcs : wr.cell? ⟨w.heap.size, j, none⟩ = some (U64 (stN64 s j)) := by
            rw [hb8.cell, get_mixF _ _ _ _ _ hlt]; simp
          have hcr := cell_st64 hb7 j hlt
          have hf := hb8.frozen j
          have hnew : Blk (wr.setCell ⟨w.heap.size, j, none⟩ (U64 (stN64 s j + stN64 (rounds64 ws s 80) j))).drew w.heap.size 47 (mixF (fun j => U64 (stN64 s j)) (fun j => U64 (stN64 s j + stN64 (rounds64 ws s 80) j)) 8 (j + 1)) := by
            rw [← set_mixF]
            exact (hb8.set_ j _).drew
          go_wp2
          go_region
          go_wp2
          go_roundw
          case rel => exact ⟨j + 1, by omega, by go_num, (hbel.setCell (Nat.le_refl _) _).drew, hnew, (hb4.far (by simp) _).drew, (hb7.far (by simp; omega) _).drew⟩
          case measure => simp [intOf]; omega
        · have hd : decide ((j : Int) < 8) = false := by simp; omega
          have hb9 : Blk wr w.heap.size 47 (addSt64 s (rounds64 ws s 80)).cells := by
            rw [show j = 8 by omega, mix_cells64] at hb8; exact hb8
          clear hb8 hb7
          go_wp2_with (first
            | (refine wpList_load_blk rfl 47 (.tmp 2) rfl w.heap.size rfl 47 _ _ hb9 Tryd.underlying47 rfl (size_st64 _) ?_)
            | (refine wpList_store_blk rfl 47 (.tmp 4) (.tmp 62) rfl (w.heap.size + 1) _ rfl rfl 47 _ hb4 (size_st64 _) rfl (oneCell_st64 _) ?_
               intro wz hbz hgz
               have hbelz := below_grown hbel hgz hbel.size (by omega)))
          exact bodyPost_ret (results_cell_row rfl _ _ (w.heap.size + 1) 47 _ (0, 0) _ rfl hbz Tryd.underlying47 rfl (size_st64 _)) rfl ⟨by rw [comp64, ← HWS.out], hbelz⟩

end Go.Proofs.YtghjndcbnnbloaaDoor
