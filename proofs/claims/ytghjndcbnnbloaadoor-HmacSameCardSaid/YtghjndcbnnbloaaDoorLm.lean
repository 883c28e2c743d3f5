/-
  The law HmacSame, walked.
-/
import Derived.Test.YtghjndcbnnbloaaDoorA2
namespace Go.Proofs.YtghjndcbnnbloaaDoor
open Go.RowKit
theorem alloc_cell (w : World) (cs : Array Value) (t : TypeId) (fz : Nat × Nat) (j : Nat) : (w.alloc (.cells cs t fz)).cell? ⟨w.heap.size, j, none⟩ = cs[j]? :=
  cell_of_row _ _ j cs t fz (heap_alloc_new w _)
theorem alloc_frozen (w : World) (cs : Array Value) (t : TypeId) (a b : Nat) (j : Nat) (h : j < a) : (w.alloc (.cells cs t (a, b))).frozen? ⟨w.heap.size, j, none⟩ = false := by
  have e := heap_alloc_new w (.cells cs t (a, b))
  have q : (w.alloc (.cells cs t (a, b))).heap[(⟨w.heap.size, j, none⟩ : Addr).block]? = some (.cells cs t (a, b)) := e
  unfold World.frozen?
  rw [q]
  simp; omega
theorem bytes_alloc {P : Program} (w : World) (src dst e : TypeId) (s : ByteArray) (hs : P.underlying src = some .string) (hd : P.underlying dst = some (.slice e)) (he : P.underlying e = some (.int .u8)) :
    ∃ (cap : Nat) (W : World), (convert src dst (.string s)).run P w = .ok (.slice (some ⟨w.heap.size, 0, none⟩) s.size cap) W ∧ Bytes W w.heap.size 0 s.data.toList ∧
      (∀ j, j < s.size → W.frozen? ⟨w.heap.size, j, none⟩ = false) ∧ Below w.heap.size w W ∧ w.heap.size < W.heap.size ∧ s.size ≤ cap := by
  have hlen : ∀ cap, (bytesRow s cap).size = s.size + (cap - s.size) := fun cap => by simp [bytesRow]
  refine ⟨_, _, run_bytes_of_string w src dst e s hs hd he, ?_, ?_, ?_, ?_, grownCap_ge _ _ _ _⟩
  · intro j hj
    have hj' : j < s.size := hj
    rw [Nat.zero_add]
    have h := alloc_cell w.drew (bytesRow s (grownCap w s.size 0 e)) e ((bytesRow s (grownCap w s.size 0 e)).size, (bytesRow s (grownCap w s.size 0 e)).size + 1) j
    refine h.trans ?_
    have hjd : j < s.data.size := hj'
    simp only [bytesRow, Array.getElem?_append, Array.size_map]
    rw [if_pos hjd]
    rw [Array.getElem?_map, Array.getElem?_eq_getElem hjd]
    rfl
  · intro j hj
    exact alloc_frozen w.drew _ e _ _ j (by rw [hlen]; omega)
  · exact ((Below.refl _ _).drew).alloc (by simp) _
  · simp
theorem and7 (x : Int) : ∃ e : Nat, e < 8 ∧ bits .and .i64 x 7 = (e : Int) := by
  refine ⟨((BitVec.ofInt 64 x) &&& (BitVec.ofInt 64 7)).toNat, ?_, ?_⟩
  · rw [BitVec.toNat_and]
    exact Nat.lt_succ_of_le (Nat.and_le_right)
  · show IntKind.i64.wrap ↑((BitVec.ofInt 64 x) &&& (BitVec.ofInt 64 7)).toNat = _
    have h : ((BitVec.ofInt 64 x) &&& (BitVec.ofInt 64 7)).toNat ≤ 7 := by
      rw [BitVec.toNat_and]; exact Nat.and_le_right
    generalize ((BitVec.ofInt 64 x) &&& (BitVec.ofInt 64 7)).toNat = k at h
    simp [IntKind.wrap, IntKind.bits, IntKind.signed]
    omega
theorem idx_any (x : Int) (n : Nat) (hn : 0 < n) : ∃ (r : Int) (i : Nat), x.tmod n = r ∧ -(n : Int) < r ∧ r < n ∧ (r + n).tmod n = (i : Int) ∧ i < n := by
  have h1 : x.tmod n < n := Int.tmod_lt_of_pos _ (by omega)
  have h2 : -(n : Int) < x.tmod n := Int.lt_tmod_of_pos _ (by omega)
  have h3 : (x.tmod n + n).tmod n = (x.tmod n + n) % n := Int.tmod_eq_emod_of_nonneg (by omega)
  have h4 : 0 ≤ (x.tmod n + n) % (n : Int) := Int.emod_nonneg _ (by omega)
  have h5 : (x.tmod n + n) % (n : Int) < n := Int.emod_lt_of_pos _ (by omega)
  exact ⟨_, ((x.tmod n + n) % (n : Int)).toNat, rfl, h2, h1, by rw [h3]; omega, by omega⟩
theorem shl1 (e : Nat) (h : e < 8) : ∃ m : UInt8, (2 : Int) ^ e % 256 = n8 m ∧ m ≠ 0 := by
  refine ⟨1 <<< UInt8.ofNat e, ?_, ?_⟩
  · have h2 := shl_n8 1 e h
    rwa [show n8 1 = 1 from rfl, Int.one_mul] at h2
  · revert e; decide
theorem xor_ne (x m : UInt8) (h : m ≠ 0) : x ^^^ m ≠ x := by
  intro e
  apply h
  have : x ^^^ (x ^^^ m) = x ^^^ x := by rw [e]
  rwa [← UInt8.xor_assoc, UInt8.xor_self, UInt8.zero_xor] at this
theorem bytes_set {w : World} {g : Nat} {l : List UInt8} (h : Bytes w g 0 l) (i : Nat) (hi : i < l.length) (v : UInt8) : Bytes (w.setCell ⟨g, i, none⟩ (U8 v)) g 0 (l.set i v) := by
  intro j hj
  have hj' : j < l.length := by simpa using hj
  have hc := h j hj'
  have hci := h i hi
  rw [Nat.zero_add] at hc hci ⊢
  by_cases e : i = j
  · subst e
    rw [World.cell?_setCell_same _ _ _ hci]
    simp
  · rw [World.cell?_setCell_other _ _ _ _ (fun h => e (by injection h)), hc]
    simp [e]
theorem set_ne (l : List UInt8) (i : Nat) (h : i < l.length) (v : UInt8) (hv : v ≠ l[i]) : l.set i v ≠ l := by
  intro e
  apply hv
  have : (l.set i v)[i]'(by simpa using h) = l[i] := by simp only [e]
  simpa using this
attribute [local go_sem] xor_n8
set_option maxHeartbeats 1000000 in
set_option maxRecDepth 100000 in
theorem hmacSame_any (a0 b0 : ByteArray) (at_ : Int) (w : World) (ha0 : a0.size ≤ maxLen) (hb0 : b0.size ≤ maxLen) (_hat : (Lit.int .i64 at_).wf = true) (hK : KAt32 w) :
    Calls Tryd.prog 8 #[.string a0, .string b0, .int .i64 at_] w fun e w' => e = .returned (.bool true) ∧ Below w.heap.size w w' := by
  have hML : (100 : Nat) < maxLen := by unfold maxLen; omega
  go_enter Tryd.func8, Tryd.ntmps8
  go_wp2_with fail
  refine (awake2_any w hK).mono ?_
  rintro e w0 ⟨rfl, hbw0⟩
  go_wp2_with fail
  refine (cut_any a0 100 w0 ha0 (by omega) (by omega)).mono ?_
  rintro e w0' ⟨a, rfl, ha, haq, rfl⟩
  have ha2 : a.size ≤ 100 := by omega
  clear haq ha
  go_wp2_with fail
  refine (cut_any b0 100 w0 hb0 (by omega) (by omega)).mono ?_
  rintro e w0' ⟨b, rfl, hb, hbq, rfl⟩
  have hb2 : b.size ≤ 100 := by omega
  clear hbq hb
  go_wp2_with fail
  have ht : decide (a.data = b.data) = (a.toList == b.toList) := by
    have h : a.data = b.data ↔ a.data.toList = b.data.toList := (Array.toList_inj).symm
    have h2 : ∀ c : ByteArray, c.data.toList = c.toList := fun c => (Lib.toList_data c).symm
    rw [Bool.eq_iff_iff, decide_eq_true_iff, beq_iff_eq, h, h2, h2]
  refine (same_any a b w0 (by omega) (by omega)).mono ?_
  rintro e w1 ⟨rfl, hbw1⟩
  have hb1 : Below w.heap.size w w1 := hbw0.trans (hbw1.mono hbw0.size)
  clear hbw1 hbw0
  go_wp2_with fail
  refine (same_refl a w1 (by omega)).mono ?_
  rintro e w2 ⟨rfl, hbw2⟩
  have hb2w : Below w.heap.size w w2 := hb1.trans (hbw2.mono hb1.size)
  clear hbw2 hb1
  have hx : decide (a.data.toList = (a ++ ⟨#[120]⟩ : ByteArray).data.toList) = false := by
    refine decide_eq_false fun h => ?_
    have := congrArg List.length h
    rw [ByteArray.data_append, Array.toList_append] at this
    simp at this
  have H3 : Calls Tryd.prog 21 #[.string a, .string (a ++ ⟨#[120]⟩)] w2 fun e w' => e = .returned (.bool false) ∧ Below w2.heap.size w2 w' := by
    have h := same_any a (a ++ ⟨#[120]⟩) w2 (by omega) (by rw [ByteArray.size_append]; show _ + 1 ≤ _; omega)
    rw [hx] at h
    exact h
  clear hx
  have H3H := hid H3
  clear H3
  go_wp2_with fail
  refine H3H.out.mono ?_
  rintro e w3 ⟨rfl, hbw3⟩
  have hb3 : Below w.heap.size w w3 := hb2w.trans (hbw3.mono hb2w.size)
  clear hbw3 hb2w H3H ht
  by_cases hz : a.size = 0
  · go_wp2
    go_ret
    exact ⟨rfl, hb3⟩
  · obtain ⟨cap, W, HRUN, HBY, hfz, hbW, hltW, hcap⟩ := bytes_alloc (P := Tryd.prog) w3 9 28 5 a Tryd.underlying9 Tryd.underlying28 Tryd.underlying5
    have HR := hid HRUN
    have hbWw : Below w.heap.size w W := hb3.trans (hbW.mono hb3.size)
    clear HRUN hbW
    go_wp2_with (refine wpList_convert_run _ rfl 9 28 (.tmp 36) rfl _ rfl _ _ HR.out ?_)
    obtain ⟨r, i, hr, hr1, hr2, hi, hi2⟩ := idx_any at_ a.size (by omega)
    obtain ⟨ee, hee, hand⟩ := and7 at_
    obtain ⟨m, hshl, hm0⟩ := shl1 ee hee
    have hia : i < a.data.toList.length := hi2
    obtain ⟨x, hxx⟩ : ∃ x, x = a.data.toList[i] := ⟨_, rfl⟩
    have hc : W.cell? ⟨w3.heap.size, i, none⟩ = some (U8 x) := by
      have h := HBY i hia
      rw [Nat.zero_add, ← hxx] at h
      exact h
    have hf := hfz i hi2
    have hne : ¬ (a.size : Int) = 0 := by omega
    have hwr : IntKind.i64.wrap r = r := by simp [IntKind.wrap, IntKind.bits, IntKind.signed]; omega
    have hwa : IntKind.i64.wrap (r + a.size) = r + a.size := by simp [IntKind.wrap, IntKind.bits, IntKind.signed]; omega
    have hi0 : (0 : Int) ≤ i := by omega
    have hi3 : (i : Int) < a.size := by omega
    have he0 : (0 : Int) ≤ ee := by omega
    have HX := hid hxx
    have HM := hid hm0
    clear hxx hm0 hfz
    go_region
    have HBS := bytes_set HBY i hia (x ^^^ m)
    have hb4 := (hbWw.setCell (Nat.le_trans hb3.size (Nat.le_refl _)) (U8 (x ^^^ m)) (p := ⟨w3.heap.size, i, none⟩)).drew
    generalize hW2 : (W.setCell ⟨w3.heap.size, i, none⟩ (U8 (x ^^^ m))) = W2 at HBS hb4 ⊢
    have HB5 : Bytes W2.drew w3.heap.size 0 (a.data.toList.set i (x ^^^ m)) := HBS
    obtain ⟨L, hL⟩ : ∃ L, L = a.data.toList.set i (x ^^^ m) := ⟨_, rfl⟩
    have hLn : L.length = a.size := by rw [hL, List.length_set]; rfl
    have hx2 : decide (a.data.toList = L) = false := decide_eq_false fun h => by
      rw [hL] at h
      exact set_ne _ i hia _ (by rw [← HX.out]; exact xor_ne x m HM.out) h.symm
    have H5 : ∀ W : World, Calls Tryd.prog 21 #[.string a, .string ⟨L.toArray⟩] W fun e w' => e = .returned (.bool false) ∧ Below W.heap.size W w' := fun W => by
      have h := same_any a ⟨L.toArray⟩ W (by omega) (by show L.length ≤ _; omega)
      rw [show (⟨L.toArray⟩ : ByteArray).data.toList = L from rfl, hx2] at h
      exact h
    rw [← hL] at HB5
    have HH5 := hid H5
    clear HBS hx2 H5 hL hW2 hc hf HBY HX HM HR
    obtain ⟨W3, hW3⟩ : ∃ W3, W3 = W2.drew := ⟨_, rfl⟩
    rw [← hW3] at HB5 hb4 ⊢
    clear hW3
    go_wp2_with (refine wpList_string_of _ rfl 28 9 5 (.tmp 57) rfl Tryd.underlying28 Tryd.underlying5 Tryd.underlying9 w3.heap.size 0 a.size cap L rfl hLn HB5 ?_)
    refine (HH5.out W3).mono ?_
    rintro e w6 ⟨rfl, hb6⟩
    have hb7 := hb4.trans (hb6.mono hb4.size)
    clear hb6 hb4
    go_wp2
    go_ret
    exact ⟨rfl, hb7⟩
end Go.Proofs.YtghjndcbnnbloaaDoor
