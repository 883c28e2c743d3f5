/-
  The initial state of ChaCha20, walked.
-/
import Derived.Test.YtaenhghihhhikaaDoorXw
namespace Go.Proofs.YtaenhghihhhikaaDoor
open Go.RowKit
attribute [local go_sem] and_n32 or_n32 xor_n32 add_n32 add_n32' wrap_n32

theorem new4 (w : World) (t1 t2 t3 t4 : TypeId) (A B C D : Array Value) : ∃ w0 : World, w0 = (((w.alloc (.cells A t1)).alloc (.cells B t2)).alloc (.cells C t3)).alloc (.cells D t4) ∧ Below w.heap.size w w0 ∧
    Blk w0 w.heap.size t1 A ∧ Blk w0 (w.heap.size + 1) t2 B ∧ Blk w0 (w.heap.size + 2) t3 C ∧ Blk w0 (w.heap.size + 3) t4 D ∧ w0.heap.size = w.heap.size + 4 :=
  ⟨_, rfl, ((((Below.refl _ _).alloc (Nat.le_refl _) _).alloc (by simp) _).alloc (by simp <;> omega) _).alloc (by simp <;> omega) _, (((Blk.new w t1 A).alloc _).alloc _).alloc _,
    ((show Blk ((w.alloc (.cells A t1)).alloc (.cells B t2)) (w.heap.size + 1) t2 B by simpa using Blk.new (w.alloc (.cells A t1)) t2 B).alloc _).alloc _,
    (show Blk (((w.alloc (.cells A t1)).alloc (.cells B t2)).alloc (.cells C t3)) (w.heap.size + 2) t3 C by simpa using Blk.new ((w.alloc (.cells A t1)).alloc (.cells B t2)) t3 C).alloc _,
    (show Blk ((((w.alloc (.cells A t1)).alloc (.cells B t2)).alloc (.cells C t3)).alloc (.cells D t4)) (w.heap.size + 3) t4 D by simpa using Blk.new (((w.alloc (.cells A t1)).alloc (.cells B t2)).alloc (.cells C t3)) t4 D), by simp⟩
theorem oneCell_map {α : Type} (f : α → Value) (hf : ∀ x, (f x).oneCell' = true) (l : List α) : ((l.map f).toArray).all (·.oneCell') = true := by
  rw [Array.all_eq_true]
  intro i hi
  simp only [List.getElem_toArray, List.getElem_map]
  exact hf _
theorem oneCell_rowOf {α : Type} (f : α → Value) (hf : ∀ x, (f x).oneCell' = true) (z : α) (n : Nat) (l : List α) : (rowOf f z n l).all (·.oneCell') = true := by
  rw [Array.all_eq_true]
  intro i hi
  have h := get_rowOf f z n l i (by simpa [size_rowOf] using hi)
  rw [Array.getElem?_eq_getElem hi] at h
  rw [Option.some.inj h]; exact hf _
theorem rowOf_full {α : Type} (f : α → Value) (z : α) (n : Nat) (l : List α) (h : l.length = n) : rowOf f z n l = (l.map f).toArray := by
  apply Array.ext_getElem?
  intro j
  by_cases hj : j < n
  · rw [get_rowOf _ _ _ _ _ hj]; simp [List.getD_eq_getElem?_getD, List.getElem?_eq_getElem (show j < l.length by omega)]
  · rw [Array.getElem?_eq_none (by rw [size_rowOf]; omega), Array.getElem?_eq_none (by simp <;> omega)]
theorem bytes_map {w : World} {g t : Nat} {L : List UInt8} (h : Blk w g t (L.map U8).toArray) : Bytes w g 0 L := fun j hj => by
  rw [h.cell, Nat.zero_add]; simp [hj]
theorem size_map {α : Type} (f : α → Value) (l : List α) (n : Nat) (h : l.length = n) : (l.map f).toArray.size = n := by simp [h]
theorem infoState : (Tryd.prog.info? 60).map (·.size) = some 16 := by kernel_rfl
theorem sizeState (l : List UInt32) (h : l.length = 16) : (Tryd.prog.info? 60).map (·.size) = some ((l.map U32).toArray).size := by rw [size_map _ _ _ h]; exact infoState
theorem sizeStateRow (l : List UInt32) : (Tryd.prog.info? 60).map (·.size) = some (rowOf U32 0 16 l).size := by rw [size_rowOf]; exact infoState

/-- a[l:h] of an array behind a pointer, its elements of one cell each. -/
theorem slice_arr {P : Program} (t e n : Nat) (hu : P.underlying t = some (.array n e)) (hs : (P.info? e).map (·.size) = some 1) (b : Nat) (kl kh : IntKind) (L H : Int) (l h : Nat) (hL : L = l) (hH : H = h) (h1 : l ≤ h) (h2 : h ≤ n) (h3 : l < n) (w : World) :
    (Instr.sliceAt t (.pointer (some ⟨b, 0, none⟩)) (some (.int kl L)) (some (.int kh H)) none).run P w = .ok (.slice (some ⟨b, l, none⟩) (h - l) (n - l)) w := by
  subst hL hH
  have ha : P.arrayLen t = n := by simp [Program.arrayLen, hu]
  have he : P.elem t = e := by simp [Program.elem, hu]
  have hs' : (sizeOf e).run P w = .ok 1 w := by
    cases hq : P.info? e with
    | none => simp [hq] at hs
    | some i => simp [hq] at hs; simp [sizeOf, typeInfo, hq, hs]
  rw [run_sliceAt_array_lh w t ⟨b, 0, none⟩ (by rw [ha, he]; exact hu) kl kh l h (by omega) (by omega) (by rw [ha]; omega), he, hs']
  simp only [Result.andThen_ok, slicedAt, ha, Int.toNat_natCast, Nat.mul_one]
  rw [if_neg (by omega), addr_add]
theorem four_bel (w : World) (t1 t2 t3 t4 : TypeId) (A B C D : Array Value) : Below w.heap.size w ((((w.alloc (.cells A t1)).alloc (.cells B t2)).alloc (.cells C t3)).alloc (.cells D t4)) :=
  ((((Below.refl _ _).alloc (Nat.le_refl _) _).alloc (by simp) _).alloc (by simp <;> omega) _).alloc (by simp <;> omega) _
theorem size8 : (Tryd.prog.info? 5).map (·.size) = some 1 := by kernel_rfl
def IRel (w : World) (key nonce : List UInt8) (l : List UInt32) (wr : World) : Prop :=
  Below w.heap.size w wr ∧ Blk wr w.heap.size 22 (key.map U8).toArray ∧ Blk wr (w.heap.size + 1) 24 (nonce.map U8).toArray ∧
    Blk wr (w.heap.size + 1 + 1) 60 (rowOf U32 0 16 []) ∧ Blk wr (w.heap.size + 1 + 1 + 1) 60 (rowOf U32 0 16 l)
theorem IRel.put {w wr : World} {key nonce : List UInt8} {l : List UInt32} (h : IRel w key nonce l wr) (v : UInt32) (i : Nat) (hi : i = l.length) : IRel w key nonce (l ++ [v]) (wr.setCell ⟨w.heap.size + 1 + 1 + 1, i, none⟩ (U32 v)) := by
  obtain ⟨h0, h1, h2, h3, h4⟩ := h
  refine ⟨h0.setCell (by simp <;> omega) _, h1.far (by simp <;> omega) _, h2.far (by simp <;> omega) _, h3.far (by simp) _, ?_⟩
  rw [← push_rowOf _ _ _ _ i _ hi]; exact h4.set_ _ _
theorem IRel.cell {w wr : World} {key nonce : List UInt8} {l : List UInt32} (h : IRel w key nonce l wr) (i : Nat) (hi : i < 16) : ∃ u, wr.cell? ⟨w.heap.size + 1 + 1 + 1, i, none⟩ = some u :=
  ⟨_, (h.2.2.2.2.cell i).trans (get_rowOf _ _ _ _ _ hi)⟩
set_option maxHeartbeats 2000000 in
set_option maxRecDepth 100000 in
theorem initial_any (key nonce : List UInt8) (ctr : UInt32) (w : World) (hk : key.length = 32) (hn : nonce.length = 12) :
    Calls Tryd.prog 29 #[.agg (key.map U8).toArray, U32 ctr, .agg (nonce.map U8).toArray] w fun e w' => e = .returned (.agg ((cInit key ctr nonce).map U32).toArray) ∧ Below w.heap.size w w' := by
  have hkl := hid hk
  have hnl := hid hn
  clear hk hn
  go_enter Tryd.func29, Tryd.ntmps29
  go_wp2
  go_loopw [11] (fun i wr => ∃ k : Nat, k ≤ 8 ∧ i = .int .i64 k ∧ IRel w key nonce (sigma ++ leWords key k) wr) (fun i _ => 8 - (intOf i).toNat)
  case atStart =>
    refine ⟨0, Nat.zero_le _, rfl, four_bel _ _ _ _ _ _ _ _ _, (((Blk.new w _ _).alloc _).alloc _).alloc _, ?_, ?_, ?_⟩
    · exact ((show Blk ((w.alloc _).alloc _) (w.heap.size + 1) _ _ by simpa using Blk.new (w.alloc (.cells (key.map U8).toArray 22)) 24 (nonce.map U8).toArray).alloc _).alloc _
    · refine blk_cast ((show Blk (((w.alloc _).alloc _).alloc _) (w.heap.size + 1 + 1) _ _ by simpa using Blk.new ((w.alloc (.cells (key.map U8).toArray 22)).alloc (.cells (nonce.map U8).toArray 24)) 60 _).alloc _) (by kernel_rfl)
    · refine blk_cast (show Blk ((((w.alloc _).alloc _).alloc _).alloc _) (w.heap.size + 1 + 1 + 1) _ _ by simpa using Blk.new (((w.alloc (.cells (key.map U8).toArray 22)).alloc (.cells (nonce.map U8).toArray 24)).alloc _) 60 _) (by kernel_rfl)
  case round =>
    obtain ⟨k, hk, rfl, hR⟩ := hrel
    by_cases hlt : k < 8
    · obtain ⟨u, hc⟩ := hR.cell (4 + k) (by omega)
      have hf := hR.2.2.2.2.frozen (4 + k)
      have hby : Bytes wr w.heap.size (4 * k) ((key.drop (4 * k)).take 4) := by simpa using (bytes_map hR.2.1).sub (4 * k) 4
      have hle : ((key.drop (4 * k)).take 4).length = 4 := by have := hkl.out; simp; omega
      have hnew : IRel w key nonce (sigma ++ leWords key (k + 1)) (wr.setCell ⟨w.heap.size + 1 + 1 + 1, 4 + k, none⟩ (U32 (le32 ((key.drop (4 * k)).take 4) 4))) := by
        rw [leWords_succ, ← List.append_assoc]
        exact hR.put _ _ (by simp [sigma, length_leWords]; omega)
      have hsl := slice_arr (P := Tryd.prog) 22 5 32 Tryd.underlying22 size8 w.heap.size .i64 .i64 (4 * (k : Int)) (4 * (k : Int) + 4) (4 * k) (4 * k + 4) (by omega) (by omega) (by omega) (by omega) (by omega)
      rw [show 4 * k + 4 - 4 * k = 4 by omega] at hsl
      go_wp2_with fail
      refine (readWordC_any _ _ _ _ _ hby hle).mono ?_
      rintro e w' ⟨rfl, rfl⟩
      go_wp2
      go_roundw
      case rel => exact ⟨k + 1, by omega, by go_num, hnew⟩
      case measure => simp [intOf]; omega
    · have hd : decide ((k : Int) < 8) = false := by simp; omega
      rw [show k = 8 by omega] at hR
      obtain ⟨u, hc⟩ := hR.cell 12 (by omega)
      have hf := hR.2.2.2.2.frozen 12
      have hput := hR.put ctr 12 (by simp [sigma, length_leWords])
      clear hR
      go_wp2
      clear hc hf hd hlt
      go_loopw [27] (fun i wr => ∃ k : Nat, k ≤ 3 ∧ i = .int .i64 k ∧ IRel w key nonce (sigma ++ leWords key 8 ++ [ctr] ++ leWords nonce k) wr) (fun i _ => 3 - (intOf i).toNat)
      case atStart => exact ⟨0, Nat.zero_le _, rfl, by simpa [leWords] using hput⟩
      case round =>
        clear hput
        obtain ⟨k, hk, rfl, hR⟩ := hrel
        by_cases hlt : k < 3
        · obtain ⟨u, hc⟩ := hR.cell (13 + k) (by omega)
          have hf := hR.2.2.2.2.frozen (13 + k)
          have hby : Bytes wr (w.heap.size + 1) (4 * k) ((nonce.drop (4 * k)).take 4) := by simpa using (bytes_map hR.2.2.1).sub (4 * k) 4
          have hle : ((nonce.drop (4 * k)).take 4).length = 4 := by have := hnl.out; simp; omega
          have hnew : IRel w key nonce (sigma ++ leWords key 8 ++ [ctr] ++ leWords nonce (k + 1)) (wr.setCell ⟨w.heap.size + 1 + 1 + 1, 13 + k, none⟩ (U32 (le32 ((nonce.drop (4 * k)).take 4) 4))) := by
            rw [leWords_succ nonce k, ← List.append_assoc]
            exact hR.put _ _ (by simp [sigma, length_leWords]; omega)
          have hsl := slice_arr (P := Tryd.prog) 24 5 12 Tryd.underlying24 size8 (w.heap.size + 1) .i64 .i64 (4 * (k : Int)) (4 * (k : Int) + 4) (4 * k) (4 * k + 4) (by omega) (by omega) (by omega) (by omega) (by omega)
          rw [show 4 * k + 4 - 4 * k = 4 by omega] at hsl
          go_wp2_with fail
          refine (readWordC_any _ _ _ _ _ hby hle).mono ?_
          rintro e w' ⟨rfl, rfl⟩
          go_wp2
          go_roundw
          case rel => exact ⟨k + 1, by omega, by go_num, hnew⟩
          case measure => simp [intOf]; omega
        · have hd : decide ((k : Int) < 3) = false := by simp; omega
          rw [show k = 3 by omega] at hR
          obtain ⟨hbel, h1, h2, h3, h4⟩ := hR
          have e : rowOf U32 0 16 (sigma ++ leWords key 8 ++ [ctr] ++ leWords nonce 3) = ((cInit key ctr nonce).map U32).toArray := rowOf_full _ _ _ _ (length_cInit _ _ _)
          rw [e] at h4
          clear e
          go_wp2_with (first
            | (refine wpList_load_blk rfl 60 (.tmp 7) rfl (w.heap.size + 1 + 1 + 1) rfl 60 _ _ h4 Tryd.underlying60 rfl (sizeState _ (length_cInit _ _ _)) ?_)
            | (refine wpList_store_blk rfl 60 (.tmp 6) (.tmp 41) rfl (w.heap.size + 1 + 1) _ rfl rfl 60 _ h3 (sizeState _ (length_cInit _ _ _)) (by rw [size_rowOf, size_map _ _ _ (length_cInit _ _ _)]) (oneCell_map _ (fun _ => rfl) _) ?_
               intro wz hbz hgz
               have hbelz := below_grown hbel hgz hbel.size (by omega)))
          exact bodyPost_ret (results_cell_row rfl _ _ (w.heap.size + 1 + 1) 60 _ (0, 0) _ rfl hbz Tryd.underlying60 rfl (sizeState _ (length_cInit _ _ _))) rfl ⟨rfl, hbelz⟩
end Go.Proofs.YtaenhghihhhikaaDoor
