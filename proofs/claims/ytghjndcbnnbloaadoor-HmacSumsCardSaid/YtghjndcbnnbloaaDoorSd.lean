/-
  hmac.Spread, walked.
-/
import Derived.Test.YtghjndcbnnbloaaDoorHs
import Derived.Test.YtghjndcbnnbloaaDoorAp
import Derived.Lib.AppendStr
namespace Go.Proofs.YtghjndcbnnbloaaDoor
open Go.RowKit
def lastP (K lab : List UInt8) : Nat → List UInt8
  | 0 => []
  | i + 1 => hmacL K (lastP K lab i ++ (lab ++ [UInt8.ofNat (i + 1)]))
def outP (K lab : List UInt8) : Nat → List UInt8
  | 0 => []
  | i + 1 => outP K lab i ++ lastP K lab (i + 1)
def spreadL (K lab : List UInt8) (n : Nat) : List UInt8 := (outP K lab ((n + 31) / 32)).take n
theorem length_lastP (K lab : List UInt8) (i : Nat) : (lastP K lab i).length ≤ 32 := by
  cases i with
  | zero => simp [lastP]
  | succ i => rw [lastP, length_hmacL]; omega
theorem length_outP (K lab : List UInt8) (i : Nat) : (outP K lab i).length = 32 * i := by
  induction i with
  | zero => rfl
  | succ i ih => rw [outP, List.length_append, ih, lastP, length_hmacL]; omega
theorem own_belowV {w w' : World} {base e n : Nat} {v : Value} {xs : List Value} (h : w.ownsRow base e 1 v n xs) (hb : Below w.heap.size w w') : w'.ownsRow base e 1 v n xs := by
  obtain ⟨h0, h1 | ⟨g', cap', cur, hv, hb', hh, r⟩⟩ := h
  · exact ⟨h0, .inl h1⟩
  · have hg : g' < w.heap.size := by
      rcases Nat.lt_or_ge g' w.heap.size with h | h
      · exact h
      · rw [Array.getElem?_eq_none h] at hh; cases hh
    exact ⟨h0, .inr ⟨g', cap', cur, hv, hb', (hb.block g' hg).trans hh, r⟩⟩
theorem own_grown_new {w w' : World} {o : Obj} {base e n : Nat} {v : Value} {xs : List Value} (h : w.ownsRow base e 1 v n xs) (hg : (w.alloc o).grownBy w' (some w.heap.size)) : w'.ownsRow base e 1 v n xs :=
  (h.alloc o).kept hg (Or.inr fun e => by have := (h.lt _ e).2; omega)
theorem strs_three {w : World} {g C : Nat} {s s' s'' : ByteArray} {t : TypeId} (h : Blk w g t #[.string s, .string s', .string s'']) : Strs w (some ⟨g, 0, none⟩) 3 C [s, s', s''] :=
  ⟨rfl, (fun e => by cases e), (fun ad e j u hu => by
    injection e with e
    subst e
    match j, hu with
    | 0, hu => rw [addr_add, h.cell]; simpa using hu
    | 1, hu => rw [addr_add, h.cell]; simpa using hu
    | 2, hu => rw [addr_add, h.cell]; simpa using hu
    | j + 3, hu => simp at hu)⟩
theorem own_slice {w : World} {base n : Nat} {v : Value} {L : List UInt8} (h : w.ownsRow base 5 1 v n (L.map U8)) (hn : 0 < n) : ∃ g c, v = .slice (some ⟨g, 0, none⟩) n c ∧ n ≤ c ∧ Bytes w g 0 L := by
  obtain ⟨g, c, rfl, _⟩ := own_shape h hn
  have hc : n ≤ c := by
    obtain ⟨_, ⟨h1, _⟩ | ⟨g', c', cur, hv, _, _, hle, _⟩⟩ := h
    · cases h1
    · injection hv with _ _ h3; omega
  have hl : L.length = n := by have := h.1; simpa using this
  exact ⟨g, c, rfl, hc, fun q hq => by rw [Nat.zero_add, own_cell h q (by omega), List.getElem?_map, List.getElem?_eq_getElem hq]; rfl⟩
def SpreadRel (w : World) (K lab : List UInt8) (N : Nat) (V l i : Value) (wr : World) : Prop :=
  ∃ (k : Nat) (S : ByteArray), k ≤ N ∧ i = .int .i64 k ∧ l = .string S ∧ S.data.toList = lastP K lab k ∧ S.size ≤ 32 ∧ wr.ownsRow w.heap.size 5 1 V (32 * k) ((outP K lab k).map U8) ∧ Below w.heap.size w wr
set_option maxHeartbeats 1000000 in
set_option maxRecDepth 100000 in
theorem spread_nat (K lab : ByteArray) (m : Nat) (w : World) (hKs : K.size ≤ 1000) (hlab : lab.size ≤ 1000) (hm : m ≤ 8160) (hp : 0 < m) (hK : KAt32 w) :
    Calls Tryd.prog 22 #[.string K, .string lab, .int .i64 m] w fun e w' => e = .returned (.string ⟨(spreadL K.data.toList lab.data.toList m).toArray⟩) ∧ Below w.heap.size w w' := by
  obtain ⟨i5, hi5, hy0, hy1, hy2⟩ := info_parts info5
  obtain ⟨N, hN⟩ : ∃ N, N = (m + 31) / 32 := ⟨_, rfl⟩
  have hN1 : ((m : Int) + 32 - 1) / 32 = (N : Int) := by omega
  have hN2 : ((m : Int) + 32 - 1).tdiv 32 = (N : Int) := by rw [Int.tdiv_eq_ediv_of_nonneg (by omega)]; exact hN1
  have hN255 : N ≤ 255 := by omega
  have hmN : m ≤ 32 * N := by omega
  have HNE := hid hN
  clear hN
  go_enter Tryd.func22, Tryd.ntmps22
  go_wp2
  clear hN1 hN2
  go_loopw [7, 8, 18] (fun V l i wr => SpreadRel w K.data.toList lab.data.toList N V l i wr) (fun _ _ i _ => N - (intOf i).toNat)
  case atStart => exact ⟨0, ⟨#[]⟩, Nat.zero_le _, rfl, rfl, rfl, Nat.zero_le _, World.ownsRow_nil _ _ _ _, Below.refl _ _⟩
  case round =>
    obtain ⟨k, S, hk, rfl, rfl, hSl, hSs, hown, hbel⟩ := hrel
    by_cases hlt : k < N
    · have hd : decide ((k : Int) < N) = true := decide_eq_true (by omega)
      obtain ⟨b, hb⟩ : ∃ b, b = UInt8.ofNat (k + 1) := ⟨_, rfl⟩
      have hbw : IntKind.u8.wrap ((k : Int) + 1) = n8 b := by
        rw [hb]; unfold n8; rw [UInt8.toNat_ofNat']
        show ((k : Int) + 1) % 256 = _
        omega
      have hflat : flat [S, lab, ⟨#[b]⟩] = lastP K.data.toList lab.data.toList k ++ (lab.data.toList ++ [UInt8.ofNat (k + 1)]) := by
        rw [show [S, lab, ⟨#[b]⟩] = [S] ++ ([lab] ++ [⟨#[b]⟩]) from rfl, flat_append, flat_append, flat_one, flat_one, flat_one, hSl, hb]
      obtain ⟨D, hD⟩ : ∃ D, D = lastP K.data.toList lab.data.toList (k + 1) := ⟨_, rfl⟩
      have hDl : D.length = 32 := by rw [hD]; exact length_hmacL _ _
      have hDh : hmacL K.data.toList (flat [S, lab, ⟨#[b]⟩]) = D := by rw [hflat, hD]; rfl
      have hout : (outP K.data.toList lab.data.toList (k + 1)) = outP K.data.toList lab.data.toList k ++ D := by rw [hD]; rfl
      have HOUT := hid hout
      have HDH := hid hDh
      have HD := hid hDl
      have HDE := hid hD
      clear hSl hflat hD hDl hDh hout hb
      obtain ⟨w1, hw1, hbel1, hbb1, hs1, hsz1⟩ := two_rows wr 5 9 #[U8 b] #[.string S, .string lab, .string ⟨#[b]⟩]
      have HW1 := hid hw1
      have hb01 : Below w.heap.size w w1 := hbel.trans (hbel1.mono hbel.size)
      have hown1 := own_belowV hown hbel1
      have hsum : sumLen [S, lab, ⟨#[b]⟩] ≤ 1000000 := by
        have e : sumLen [S, lab, ⟨#[b]⟩] = S.size + (lab.size + (1 + 0)) := rfl
        omega
      obtain ⟨R, hR⟩ : ∃ R : ByteArray, R = ⟨D.toArray⟩ := ⟨_, rfl⟩
      have hRs : R.size = 32 := by rw [hR]; show D.toArray.size = 32; rw [List.size_toArray, HD.out]
      have hRc : Lib.strCells R = D.map U8 := by rw [hR]; rfl
      have hRl : R.data.toList = D := by rw [hR]
      have HR := hid hR
      have HRS := hid hRs
      have HRC := hid hRc
      have HRL := hid hRl
      clear hR hRs hRc hRl
      clear hw1 hsz1 hbb1 hown
      go_wp2_with (refine wpList_string_of _ rfl 28 9 5 (.tmp 27) rfl Tryd.underlying28 Tryd.underlying5 Tryd.underlying9 wr.heap.size 0 1 1 [b] rfl rfl (bytes_of_list' (Blk.new wr 5 _)) ?_)
      rw [← HW1.out]
      clear HW1
      refine (hmac_any K (some ⟨wr.heap.size + 1, 0, none⟩) 3 3 [S, lab, ⟨#[b]⟩] w1 (strs_three hs1) (by omega) (by omega) hsum (hK.below hb01 hK.lt)).mono ?_
      rintro e w2 ⟨rfl, hbel2⟩
      rw [HDH.out]
      have hb02 : Below w.heap.size w w2 := hb01.trans (hbel2.mono hb01.size)
      have hown2 := own_belowV hown1 hbel2
      have hsz2 := hb02.size
      clear hown1 hs1 hbel1 hbel2 hb01 hbel
      clear hsum
      go_wp2_with (first
        | (refine wpList_store_blk rfl 24 (.tmp 10) (.tmp 30) rfl w2.heap.size _ rfl rfl 24 _ (Blk.new w2 24 _) (size24 _ HD.out) (by simp [HD.out]) (oneCell_bytes32 _) ?_
           intro w3 h3 hg3
           have hown3 := own_grown_new hown2 hg3
           have hb03 : Below w.heap.size w w3 := below_grown (hb02.alloc hb02.size _) hg3 (by simp; omega) hsz2
           clear hg3 hown2)
        | (refine wpList_string_of w3 rfl 28 9 5 (.tmp 31) rfl Tryd.underlying28 Tryd.underlying5 Tryd.underlying9 w2.heap.size 0 32 32 D rfl HD.out (bytes_of_list' h3) ?_
           rw [← HR.out])
        | (at_builtin; refine Lib.wpList_append_own_string w3 rfl (.tmp 33) (.tmp 34) 28 9 rfl w.heap.size 5 i5 Tryd.underlying28 Tryd.underlying9 hi5 hy0 hy1 hy2 _ (32 * k) _ rfl hown3 R rfl (by rw [HRS.out]; unfold maxLen; omega) (by rw [HRS.out]; omega) hb03.size ?_; intro V4 w4 hown4 hg4 _))
      have hb04 : Below w.heap.size w w4 := hb03.grown hg4 hb03.size (fun q hq => (hown3.lt q hq).1)
      rw [HRC.out, HRS.out, ← List.map_append] at hown4
      clear hg4 hown3 h3 hb02 hb03
      go_wp2
      go_roundw
      case rel => exact ⟨k + 1, R, by omega, by go_num, rfl, by rw [HRL.out, HDE.out], by rw [HRS.out]; omega, by rw [HOUT.out]; exact hown4, hb04⟩
      case measure => simp [intOf]; omega
    · have hd : decide ((k : Int) < N) = false := decide_eq_false (by omega)
      have hkN : k = N := by omega
      rw [hkN] at hown
      obtain ⟨g, c, rfl, hcap, hby⟩ := own_slice hown (by omega)
      obtain ⟨X, hX⟩ : ∃ X, X = spreadL K.data.toList lab.data.toList m := ⟨_, rfl⟩
      have hXo : X = (outP K.data.toList lab.data.toList N).take m := by rw [hX, HNE.out]; rfl
      have hbX : Bytes wr g 0 X := by
        have h := hby.sub 0 m
        rw [List.drop_zero, ← hXo] at h
        exact h
      have hXl : X.length = m := by rw [hXo, List.length_take, length_outP]; omega
      have HX := hid hX
      have HXL := hid hXl
      have hmc : m ≤ c := by omega
      clear hX hXo hXl hby hkN hown hSl
      go_wp2_with (refine wpList_string_of _ rfl 28 9 5 (.tmp 39) rfl Tryd.underlying28 Tryd.underlying5 Tryd.underlying9 g 0 m c X rfl HXL.out hbX ?_)
      go_ret
      exact ⟨by rw [← HX.out]; rfl, hbel⟩
theorem run_convert_nil (w : World) : (convert 28 9 (.slice none 0 0)).run Tryd.prog w = .ok (.string ⟨#[]⟩) w := by
  rw [run_convert_bytes_string w 28 9 5 none 0 0 Tryd.underlying28 Tryd.underlying5 Tryd.underlying9]
  rfl
theorem spread_lo (K lab : ByteArray) (n : Int) (w : World) (hn : n ≤ 0) :
    Calls Tryd.prog 22 #[.string K, .string lab, .int .i64 n] w fun e w' => e = .returned (.string ⟨#[]⟩) ∧ Below w.heap.size w w' := by
  by_cases h0 : n < 0
  · go_enter Tryd.func22, Tryd.ntmps22
    go_wp2
    refine wp_loop_rounds 1 ?_
    rw [rounds_succ]
    go_wp2_with (refine wpList_convert_run _ rfl 28 9 (.tmp 39) rfl _ rfl _ _ (run_convert_nil _) ?_)
    go_ret
    exact ⟨rfl, Below.refl _ _⟩
  · obtain rfl : n = 0 := by omega
    go_enter Tryd.func22, Tryd.ntmps22
    go_wp2
    refine wp_loop_rounds 1 ?_
    rw [rounds_succ]
    go_wp2_with (refine wpList_convert_run _ rfl 28 9 (.tmp 39) rfl _ rfl _ _ (run_convert_nil _) ?_)
    go_ret
    exact ⟨rfl, Below.refl _ _⟩
theorem spreadL_zero (K lab : List UInt8) : spreadL K lab 0 = [] := rfl
theorem spread_any (K lab : ByteArray) (n : Int) (w : World) (hKs : K.size ≤ 1000) (hlab : lab.size ≤ 1000) (hn : n ≤ 8160) (hK : KAt32 w) :
    Calls Tryd.prog 22 #[.string K, .string lab, .int .i64 n] w fun e w' => e = .returned (.string ⟨(spreadL K.data.toList lab.data.toList n.toNat).toArray⟩) ∧ Below w.heap.size w w' := by
  by_cases h0 : n ≤ 0
  · rw [show n.toNat = 0 by omega]
    exact spread_lo K lab n w h0
  · obtain ⟨m, rfl⟩ := Int.eq_ofNat_of_zero_le (show 0 ≤ n by omega)
    exact spread_nat K lab m w hKs hlab (by omega) (by omega) hK
end Go.Proofs.YtghjndcbnnbloaaDoor
