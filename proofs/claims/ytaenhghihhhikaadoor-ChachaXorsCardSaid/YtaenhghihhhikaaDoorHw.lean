/-
  Hex and Cut, walked.
-/
import Derived.Test.YtaenhghihhhikaaDoorYb
import Derived.Test.YtaenhghihhhikaaDoorHx
namespace Go.Proofs.YtaenhghihhhikaaDoor
open Go.RowKit
theorem len_data' (s : ByteArray) : s.data.toList.length = s.size := rfl
set_option maxHeartbeats 1000000 in
set_option maxRecDepth 100000 in
theorem hex_any (s : ByteArray) (w : World) (hs : s.size ≤ 1000000) :
    Calls Tryd.prog 28 #[.string s] w fun e w' => e = .returned (.string ⟨(hexL s.data.toList).toArray⟩) ∧ Below w.heap.size w w' := by
  obtain ⟨i0, hi, hz0, hz1, hz2⟩ := info_parts infoU8
  go_enter Tryd.func28, Tryd.ntmps28
  go_wp2_with (at_make; refine wpList_make_blk w rfl (.tmp 7) (.tmp 7) 28 rfl 5 i0 _ rfl Tryd.underlying28 hi hz0 hz1 _ _ _ _ (2 * s.size) rfl rfl ?c1 ?c2 ?c3 ?c4 ?_)
  case c1 => omega
  case c2 => omega
  case c3 => rw [hz2]; omega
  case c4 => unfold maxLen; omega
  intro w1 hb1 hbel1 hlt1
  go_wp2
  go_loopw [11] (fun i wr => ∃ k : Nat, k ≤ s.size ∧ i = .int .i64 k ∧ Below w.heap.size w wr ∧ Blk wr w.heap.size 5 (mixF (fun _ => U8 0) (fun j => U8 (hexAt s.data.toList j)) (2 * s.size) (2 * k))) (fun i _ => s.size - (intOf i).toNat)
  case atStart => exact ⟨0, Nat.zero_le _, rfl, hbel1, blk_cast hb1 (by apply Array.ext_getElem?; intro j; by_cases hj : j < 2 * s.size <;> simp [mixF, hj] <;> rfl)⟩
  case round =>
    obtain ⟨k, hk, rfl, hbel, hb⟩ := hrel
    by_cases hlt : k < s.size
    · have hu := s[k].toNat_lt
      obtain ⟨u0, hc0⟩ : ∃ u, wr.cell? ⟨w.heap.size, 2 * k, none⟩ = some u := by
        rw [hb.cell, get_mixF _ _ _ _ _ (by omega)]; exact ⟨_, rfl⟩
      obtain ⟨u1, hc1⟩ : ∃ u, wr.cell? ⟨w.heap.size, 2 * k + 1, none⟩ = some u := by
        rw [hb.cell, get_mixF _ _ _ _ _ (by omega)]; exact ⟨_, rfl⟩
      have hf0 := hb.frozen (2 * k)
      have hf1 := hb.frozen (2 * k + 1)
      have hg0 : ∀ h : s[k].toNat / 16 < (ByteArray.mk #[48, 49, 50, 51, 52, 53, 54, 55, 56, 57, 97, 98, 99, 100, 101, 102]).size, Value.int .u8 ((((ByteArray.mk #[48, 49, 50, 51, 52, 53, 54, 55, 56, 57, 97, 98, 99, 100, 101, 102])[s[k].toNat / 16]'h).toNat : Nat) : Int) = U8 (hexAt s.data.toList (2 * k)) := by
        intro h
        rw [hex_idx, ofNat_div16]
        unfold hexAt
        rw [if_pos (by omega), show 2 * k / 2 = k by omega, List.getD_eq_getElem?_getD, List.getElem?_eq_getElem (by rw [len_data']; exact hlt)]
        rfl
      have hg1 : ∀ h : s[k].toNat % 16 < (ByteArray.mk #[48, 49, 50, 51, 52, 53, 54, 55, 56, 57, 97, 98, 99, 100, 101, 102]).size, Value.int .u8 ((((ByteArray.mk #[48, 49, 50, 51, 52, 53, 54, 55, 56, 57, 97, 98, 99, 100, 101, 102])[s[k].toNat % 16]'h).toNat : Nat) : Int) = U8 (hexAt s.data.toList (2 * k + 1)) := by
        intro h
        rw [hex_idx, ofNat_mod16]
        unfold hexAt
        rw [if_neg (by omega), show (2 * k + 1) / 2 = k by omega, List.getD_eq_getElem?_getD, List.getElem?_eq_getElem (by rw [len_data']; exact hlt)]
        rfl
      have HG0 := hid hg0
      have HG1 := hid hg1
      clear hg0 hg1
      go_wp2
      go_roundw
      case rel =>
        refine ⟨k + 1, by omega, by go_num, (hbel.setCell (Nat.le_refl _) _).setCell (Nat.le_refl _) _, blk_cast ((hb.set_ (2 * k) _).set_ (2 * k + 1) _) ?_⟩
        rw [HG0.out, HG1.out, show 2 * (k + 1) = 2 * k + 1 + 1 by omega, ← set_mixF, ← set_mixF]
      case measure => simp [intOf]; omega
    · have hb2 : Blk wr w.heap.size 5 ((hexL s.data.toList).map U8).toArray := by
        rw [show k = s.size by omega, hexL_cells _ _ (by rw [len_data'])] at hb; exact hb
      have hby : Bytes wr w.heap.size 0 (hexL s.data.toList) := bytes_map hb2
      have hL := length_hexL s.data.toList
      rw [len_data'] at hL
      have HL := hid hL
      clear hL hb hb2
      go_wp2_with (refine wpList_string_of wr rfl 28 9 5 (.tmp 34) rfl Tryd.underlying28 Tryd.underlying5 Tryd.underlying9 w.heap.size 0 _ _ (hexL s.data.toList) rfl HL.out hby ?_)
      go_ret
      exact ⟨rfl, hbel⟩
/-- string(b) under a guard that says yes. -/
theorem wpList_string_of_g {P : Program} (w : World) {ops : Array Oper} {rest : List Oper} {o : Oper} {a : Act} {Q : Exit → Act → World → Prop} (hw : Region.wanted o (yielded ops a.tmps) = true) (s d e : TypeId) (x : Operand)
    (ho : o.op = .convert s d x) (hs : P.underlying s = some (.slice e)) (he : P.underlying e = some (.int .u8)) (hd : P.underlying d = some .string)
    (b off n c : Nat) (bs : List UInt8) (hx : a.eval x = .slice (some ⟨b, off, none⟩) n c) (hn : bs.length = n) (hb : Bytes w b off bs)
    (h : wpList P ops Q rest (a.put o.dst (.string ⟨bs.toArray⟩)) w) : wpList P ops Q (o :: rest) a w := by
  subst hn
  refine wpList_step fun K hK => ?_
  rw [if_pos hw]
  have hr := run_convert_bytes_back (P := P) w s d e _ c bs hs he hd (cells_of_bytes hb)
  unfold Oper.wp execOp
  simp only [ho, hx, Sem.run_bind, Sem.run_pure, Result.andThen_ok, hr]
  exact hK _ _ h

set_option maxHeartbeats 400000 in
theorem cut_any (s : ByteArray) (n : Int) (w : World) (_hs : s.size ≤ maxLen) (h0 : 0 ≤ n) (hn : n ≤ 1000) :
    Calls Tryd.prog 15 #[.string s, .int .i64 n] w fun e w' => ∃ t : ByteArray, e = .returned (.string t) ∧ t.size ≤ n ∧ t.data.toList = s.data.toList.take n.toNat ∧ w = w' := by
  unfold maxLen at _hs
  obtain ⟨m, rfl⟩ := Int.eq_ofNat_of_zero_le h0
  by_cases hlt : m < s.size
  · go_enter Tryd.func15, Tryd.ntmps15
    go_wp2
    go_ret
    exact ⟨_, rfl, by simp; omega, by simp [ByteArray.data_extract], rfl⟩
  · go_enter Tryd.func15, Tryd.ntmps15
    go_wp2
    go_ret
    exact ⟨s, rfl, by omega, by rw [List.take_of_length_le]; rw [Int.toNat_natCast]; show s.size ≤ m; omega, rfl⟩

theorem one_new (w : World) (t : TypeId) (X : Array Value) : ∃ w3 : World, w3 = w.alloc (.cells X t) ∧ Below w.heap.size w w3 ∧ Blk w3 w.heap.size t X ∧ w3.heap.size = w.heap.size + 1 :=
  ⟨_, rfl, (Below.refl _ _).alloc (Nat.le_refl _) _, Blk.new w t X, by simp⟩
end Go.Proofs.YtaenhghihhhikaaDoor
