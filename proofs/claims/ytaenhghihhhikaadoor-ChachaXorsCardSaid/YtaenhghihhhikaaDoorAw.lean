/-
  The fixed fact of layer 3 (awake), walked.
-/
import Derived.Test.YtaenhghihhhikaaDoorHw
import Derived.Test.YtaenhghihhhikaaDoorKa
namespace Go.Proofs.YtaenhghihhhikaaDoor
open Go.RowKit

theorem key0_get (i : Nat) (h : i < 32) : key0.take (i + 1) = key0.take i ++ [UInt8.ofNat i] := by
  have e : ∀ i : Fin 32, key0.take (i.val + 1) = key0.take i.val ++ [UInt8.ofNat i.val] := by decide
  exact e ⟨i, h⟩
set_option maxHeartbeats 1000000 in
set_option maxRecDepth 100000 in
theorem awake3_any (w : World) (hQ : QAt w) :
    Calls Tryd.prog 12 #[] w fun e w' => e = .returned (.bool true) ∧ Below w.heap.size w w' := by
  have HQ := hid hQ
  clear hQ
  have hz : rowOf U8 0 32 (key0.take 0) = #[Value.int IntKind.u8 0, Value.int IntKind.u8 0, Value.int IntKind.u8 0, Value.int IntKind.u8 0, Value.int IntKind.u8 0, Value.int IntKind.u8 0, Value.int IntKind.u8 0, Value.int IntKind.u8 0, Value.int IntKind.u8 0, Value.int IntKind.u8 0, Value.int IntKind.u8 0, Value.int IntKind.u8 0, Value.int IntKind.u8 0, Value.int IntKind.u8 0, Value.int IntKind.u8 0, Value.int IntKind.u8 0, Value.int IntKind.u8 0, Value.int IntKind.u8 0, Value.int IntKind.u8 0, Value.int IntKind.u8 0, Value.int IntKind.u8 0, Value.int IntKind.u8 0, Value.int IntKind.u8 0, Value.int IntKind.u8 0, Value.int IntKind.u8 0, Value.int IntKind.u8 0, Value.int IntKind.u8 0, Value.int IntKind.u8 0, Value.int IntKind.u8 0, Value.int IntKind.u8 0, Value.int IntKind.u8 0, Value.int IntKind.u8 0] := by kernel_rfl
  have HZ := hid hz
  clear hz
  go_enter Tryd.func12, Tryd.ntmps12
  go_wp2
  go_loopw [2, 4] (fun _ i wr => ∃ k : Nat, k ≤ 32 ∧ i = .int .i64 k ∧ Below w.heap.size w wr ∧ Blk wr w.heap.size 22 (rowOf U8 0 32 (key0.take k))) (fun _ i _ => 32 - (intOf i).toNat)
  case atStart => exact ⟨0, Nat.zero_le _, rfl, (Below.refl _ _).alloc (Nat.le_refl _) _, blk_cast (Blk.new w _ _) HZ.out.symm⟩
  case round =>
    obtain ⟨k, hk, rfl, hbel, hb⟩ := hrel
    by_cases hlt : k < 32
    · have hd : decide ((k : Int) < 32) = true := by simp; omega
      obtain ⟨u, hc⟩ : ∃ u, wr.cell? ⟨w.heap.size, k, none⟩ = some u := by
        rw [hb.cell, get_rowOf _ _ _ _ _ (by omega)]; exact ⟨_, rfl⟩
      have hf := hb.frozen k
      have hw : IntKind.u8.wrap (k : Int) = n8 (UInt8.ofNat k) := by rw [wrap_u8, ← lit_n8 k (by omega)]; omega
      have hnew : Blk (wr.setCell ⟨w.heap.size, k, none⟩ (U8 (UInt8.ofNat k))) w.heap.size 22 (rowOf U8 0 32 (key0.take (k + 1))) := by
        rw [key0_get k hlt, ← push_rowOf _ _ _ _ k _ (by simp [key0]; omega)]
        exact hb.set_ _ _
      have hki : (k : Int) < 32 := by omega
      go_wp2
      go_roundw
      case rel => exact ⟨k + 1, by omega, by go_num, hbel.setCell (Nat.le_refl _) _, hnew⟩
      case measure => simp [intOf]; omega
    · have hd : decide ((k : Int) < 32) = false := by simp; omega
      rw [show k = 32 by omega] at hb
      have hrow : rowOf U8 0 32 (key0.take 32) = (key0.map U8).toArray := rowOf_full _ _ _ _ rfl
      rw [hrow] at hb
      have hQr : QAt wr := HQ.out.below hbel HQ.out.lt
      have HQr := hid hQr
      clear hrow hQr
      go_wp2_with (refine wpList_load_blk rfl 22 (.tmp 1) rfl w.heap.size rfl 22 _ _ hb Tryd.underlying22 rfl (size22 _ rfl) ?_)
      refine Calls.mono (by exact (cblock_any key0 nonce0 1 wr rfl rfl HQr.out)) ?_
      rintro e w1 ⟨rfl, hb1⟩
      have hbel1 := hbel.trans (hb1.mono hbel.size)
      have hD : (cBlock key0 1 nonce0).length = 64 := length_cBlock _ _ _
      have hx := block0
      obtain ⟨D, hDD⟩ : ∃ D, D = cBlock key0 1 nonce0 := ⟨_, rfl⟩
      rw [← hDD] at hD hx ⊢
      have HD := hid hD
      have HX := hid hx
      have hsz := hbel1.size
      clear hD hx hDD hb hbel hb1
      go_wp2_with (first
        | (refine wpList_store_blk rfl 26 (.tmp 3) (.tmp 14) rfl w1.heap.size _ rfl rfl 26 _ (Blk.new w1 26 _) (size26 _ HD.out) (by rw [size_map _ _ _ HD.out]; rfl) (oneCell_map _ (fun _ => rfl) _) ?_
           intro w2 h2 hg2
           have hbel2 := below_grown (hbel1.alloc hsz _) hg2 (by simp; omega) hsz
           have hby : Bytes w2 w1.heap.size 0 (D.take 16) := by simpa using (bytes_map h2).sub 0 16
           have hl16 : Hid ((D.take 16).length = 16) := hid (by rw [List.length_take, HD.out]; rfl)
           clear hg2)
        | (refine wpList_string_of w2 rfl 28 9 5 (.tmp 15) rfl Tryd.underlying28 Tryd.underlying5 Tryd.underlying9 w1.heap.size 0 16 64 (D.take 16) rfl hl16.out hby ?_))
      have hx := hex_any ⟨(D.take 16).toArray⟩ w2 (by show (D.take 16).toArray.size ≤ _; rw [List.size_toArray, hl16.out]; omega)
      rw [show hexL (ByteArray.mk (D.take 16).toArray).data.toList = hex0 from HX.out] at hx
      refine hx.mono ?_
      rintro e w3 ⟨rfl, hb3⟩
      have hbel3 := hbel2.trans (hb3.mono hbel2.size)
      go_wp2
      go_ret
      exact ⟨congrArg (fun b => Ending.returned (Value.bool b)) (by decide +kernel), hbel3⟩
end Go.Proofs.YtaenhghihhhikaaDoor
