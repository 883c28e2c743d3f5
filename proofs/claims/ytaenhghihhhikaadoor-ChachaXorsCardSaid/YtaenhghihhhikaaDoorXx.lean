/-
  The stream cipher's Xor, walked.
-/
import Derived.Test.YtaenhghihhhikaaDoorXb
import Derived.Test.YtaenhghihhhikaaDoorBy
namespace Go.Proofs.YtaenhghihhhikaaDoor
open Go.RowKit
attribute [local go_sem] xor_n8 add_n32 add_n32' wrap_n32

/-- The bytes of s, the first m of them with the key stream. -/
def cPart (key : List UInt8) (ctr : UInt32) (nonce s : List UInt8) (m : Nat) : List UInt8 := s.mapIdx fun i b => if i < m then b ^^^ (cBlock key (ctr + UInt32.ofNat (i / 64)) nonce).getD (i % 64) 0 else b
theorem length_cPart (key : List UInt8) (ctr : UInt32) (nonce s : List UInt8) (m : Nat) : (cPart key ctr nonce s m).length = s.length := by simp [cPart]
theorem cPart_zero (key : List UInt8) (ctr : UInt32) (nonce s : List UInt8) : cPart key ctr nonce s 0 = s := by
  apply List.ext_getElem?; intro i; simp [cPart]
theorem cPart_all (key : List UInt8) (ctr : UInt32) (nonce s : List UInt8) (m : Nat) (h : s.length ≤ m) : cPart key ctr nonce s m = cXor key ctr nonce s := by
  apply List.ext_getElem?
  intro i
  by_cases hi : i < s.length
  · rw [get_cXor _ _ _ _ i hi]; simp [cPart, hi, show i < m by omega]
  · rw [List.getElem?_eq_none (by rw [length_cPart]; omega), List.getElem?_eq_none (by rw [length_cXor]; omega)]
theorem cPart_getD (key : List UInt8) (ctr : UInt32) (nonce s : List UInt8) (m : Nat) (h : m < s.length) : (cPart key ctr nonce s m).getD m 0 = s.getD m 0 := by
  simp [cPart, List.getD_eq_getElem?_getD, h]
theorem cPart_succ (key : List UInt8) (ctr : UInt32) (nonce s : List UInt8) (m : Nat) (h : m < s.length) :
    (cPart key ctr nonce s m).set m (s.getD m 0 ^^^ (cBlock key (ctr + UInt32.ofNat (m / 64)) nonce).getD (m % 64) 0) = cPart key ctr nonce s (m + 1) := by
  apply List.ext_getElem?
  intro i
  rw [List.getElem?_set, length_cPart]
  by_cases hi : i < s.length
  · by_cases e : m = i
    · subst e
      simp [cPart, h, List.getD_eq_getElem?_getD]
    · rw [if_neg e]
      simp only [cPart, List.getElem?_mapIdx, List.getElem?_eq_getElem hi, Option.map_some]
      by_cases h2 : i < m
      · rw [if_pos h2, if_pos (by omega)]
      · rw [if_neg h2, if_neg (by omega)]
  · rw [if_neg (by omega)]
    rw [List.getElem?_eq_none (by rw [length_cPart]; omega), List.getElem?_eq_none (by rw [length_cPart]; omega)]

def XRel (w : World) (g : Nat) (key nonce s : List UInt8) (ctr : UInt32) (m : Nat) (wr : World) : Prop :=
  Below w.heap.size w wr ∧ QAt wr ∧ Blk wr w.heap.size 22 (key.map U8).toArray ∧ Blk wr (w.heap.size + 1) 24 (nonce.map U8).toArray ∧ RBytes wr g (cPart key ctr nonce s m)
def XIn (w : World) (g gB : Nat) (key nonce s : List UInt8) (ctr : UInt32) (B : List UInt8) (m : Nat) (wr : World) : Prop := XRel w g key nonce s ctr m wr ∧ Blk wr gB 26 (B.map U8).toArray
theorem XIn.next {w wr : World} {g gB k j : Nat} {key nonce s : List UInt8} {ctr : UInt32} {B : List UInt8} (h : XIn w g gB key nonce s ctr B (64 * k + j) wr) (hm : 64 * k + j < s.length) (hg : w.heap.size + 2 ≤ g ∧ g < gB) (hB : B = cBlock key (ctr + UInt32.ofNat k) nonce) (hj : j < 64) (hq : 0 < g) :
    XIn w g gB key nonce s ctr B (64 * k + (j + 1)) (wr.setCell ⟨g, 64 * k + j, none⟩ (U8 (s.getD (64 * k + j) 0 ^^^ B.getD j 0))).drew := by
  obtain ⟨⟨h0, hQ, h1, h2, h3⟩, h4⟩ := h
  refine ⟨⟨(h0.setCell (by show _ ≤ g; omega) _).drew, fun i j hi hj => ?_, (h1.far (by show _ ≠ g; omega) _).drew, (h2.far (by show _ ≠ g; omega) _).drew, ?_⟩, (h4.far (by show _ ≠ g; omega) _).drew⟩
  · exact (World.cell?_setCell_other _ _ _ _ (fun e => by injection e with e; have e' : g = 0 := e; omega)).trans (hQ i j hi hj)
  · have := h3.set_ (64 * k + j) (by rw [length_cPart]; exact hm) (s.getD (64 * k + j) 0 ^^^ B.getD j 0)
    rw [hB] at this ⊢
    have e := cPart_succ key ctr nonce s (64 * k + j) hm
    rw [show (64 * k + j) / 64 = k by omega, show (64 * k + j) % 64 = j by omega] at e
    rw [e] at this
    exact this
set_option maxHeartbeats 1000000 in
set_option maxRecDepth 100000 in
theorem cxor_any (key nonce : List UInt8) (ctr : UInt32) (s : ByteArray) (w : World) (hk : key.length = 32) (hn : nonce.length = 12) (hs : s.size ≤ 1000000) (hQ : QAt w) :
    Calls Tryd.prog 16 #[.agg (key.map U8).toArray, U32 ctr, .agg (nonce.map U8).toArray, .string s] w fun e w' => e = .returned (.string ⟨(cXor key ctr nonce s.data.toList).toArray⟩) ∧ Below w.heap.size w w' := by
  obtain ⟨w0, hw0, hbel0, hbK, hbN, hsz⟩ : ∃ w0 : World, w0 = (w.alloc (.cells (key.map U8).toArray 22)).alloc (.cells (nonce.map U8).toArray 24) ∧ Below w.heap.size w w0 ∧ Blk w0 w.heap.size 22 (key.map U8).toArray ∧ Blk w0 (w.heap.size + 1) 24 (nonce.map U8).toArray ∧ w0.heap.size = w.heap.size + 2 :=
    ⟨_, rfl, ((Below.refl _ _).alloc (Nat.le_refl _) _).alloc (by simp) _, (Blk.new w _ _).alloc _, by simpa using Blk.new (w.alloc (.cells (key.map U8).toArray 22)) 24 (nonce.map U8).toArray, by simp⟩
  have hsz1 : w.heap.size + 2 ≤ w0.heap.size := by omega
  clear hsz
  obtain ⟨cap, W, hrun, hby, hfz, hbW, hltW, hcap⟩ := bytes_alloc (P := Tryd.prog) w0 9 28 5 s Tryd.underlying9 Tryd.underlying28 Tryd.underlying5
  have HR := hid (show (convert 9 28 (.string s)).run Tryd.prog ((w.alloc (.cells (key.map U8).toArray 22)).alloc (.cells (nonce.map U8).toArray 24)) = .ok (.slice (some ⟨w0.heap.size, 0, none⟩) s.size cap) W by rw [← hw0]; exact hrun)
  have hR0 : XRel w w0.heap.size key nonce s.data.toList ctr 0 W := by
    have hbel : Below w.heap.size w W := hbel0.trans (hbW.mono (by omega))
    exact ⟨hbel, hQ.below hbel hQ.lt, hbK.below hbW (by omega), hbN.below hbW (by omega), by rw [cPart_zero]; exact ⟨hby, hfz, hltW⟩⟩
  have hkl := hid hk
  have hnl := hid hn
  clear hk hn hw0 hrun hby hfz hbW hbK hbN hbel0
  have hsl : s.data.toList.length = s.size := rfl
  have HSL := hid hsl
  have HQ := hid hQ
  clear hsl hQ
  go_enter Tryd.func16, Tryd.ntmps16
  go_wp2_with (refine wpList_convert_run _ rfl 9 28 (.tmp 14) rfl _ rfl _ _ HR.out ?_)
  clear HR
  go_loopw [1, 10] (fun c i wr => ∃ k : Nat, 64 * k < s.size + 64 ∧ i = .int .i64 (64 * (k : Int)) ∧ c = U32 (ctr + UInt32.ofNat k) ∧ XRel w w0.heap.size key nonce s.data.toList ctr (64 * k) wr) (fun _ i _ => s.size + 64 - (intOf i).toNat)
  case atStart => exact ⟨0, by omega, rfl, by simp, hR0⟩
  case round =>
    clear hR0
    obtain ⟨k, hk, rfl, rfl, hR⟩ := hrel
    by_cases hlt : 64 * k < s.size
    · obtain ⟨n, hn, hn64, hnle, hor⟩ : ∃ n : Nat, (if (s.size : Int) < 64 * (k : Int) + 64 then (s.size : Int) else 64 * (k : Int) + 64) = 64 * (k : Int) + (n : Int) ∧ n ≤ 64 ∧ 64 * k + n ≤ s.size ∧ (n = 64 ∨ 64 * k + n = s.size) := ⟨min 64 (s.size - 64 * k), by split <;> omega, by omega, by omega, by omega⟩
      have hbl : 64 * (k : Int) + (n : Int) ≤ s.size := by omega
      have hsl := slice_sl (P := Tryd.prog) 28 5 Tryd.underlying28 size8 w0.heap.size 0 s.size cap .i64 .i64 (64 * (k : Int)) (64 * (k : Int) + (n : Int)) (64 * k) (64 * k + n) (by omega) (by omega) (by omega) (by omega) (by omega)
      rw [show 64 * k + n - 64 * k = n by omega, Nat.zero_add] at hsl
      have hd : decide (64 * (k : Int) < (s.size : Int)) = true := by simp; omega
      obtain ⟨hbel, hQ, hbK, hbN, hRB⟩ := hR
      go_wp2_with (first
        | (refine wpList_load_blk rfl 22 (.tmp 4) rfl w.heap.size rfl 22 _ _ hbK Tryd.underlying22 rfl (size22 _ hkl.out) ?_)
        | (refine wpList_load_blk rfl 24 (.tmp 6) rfl (w.heap.size + 1) rfl 24 _ _ hbN Tryd.underlying24 rfl (size24 _ hnl.out) ?_))
      refine (cblock_any key nonce (ctr + UInt32.ofNat k) wr hkl.out hnl.out hQ).mono ?_
      rintro e w1 ⟨rfl, hb1⟩
      have hbel1 := hbel.trans (hb1.mono hbel.size)
      have hQ1 := hQ.below hb1 hQ.lt
      have hbK1 := hbK.below hb1 hbK.lt
      have hbN1 := hbN.below hb1 hbN.lt
      have hRB1 := hRB.below hb1 hRB.2.2 (Nat.le_refl _)
      have hgl := hRB1.2.2
      have hkl1 := hbK1.lt
      have hnl1 := hbN1.lt
      have hQ2 : Hid (∀ w2, w1.grownBy w2 (some w1.heap.size) → QAt w2) := hid fun w2 hg i j hi hj => (World.cell?_of_block (w := w1) (a := ⟨0, 4 * i + j, none⟩) (hg.block _ hQ1.lt (fun e => by injection e with e; have := hQ1.lt; have e' : 0 = w1.heap.size := e; omega))).trans (hQ1 i j hi hj)
      clear hb1 hbel hQ hbK hbN hRB
      obtain ⟨B, hB⟩ : ∃ B, B = cBlock key (ctr + UInt32.ofNat k) nonce := ⟨_, rfl⟩
      have hBl : B.length = 64 := by rw [hB, length_cBlock]
      rw [← hB]
      have HB := hid hB
      have HBL := hid hBl
      clear hB hBl
      go_wp2_with (refine wpList_store_blk rfl 26 (.tmp 11) (.tmp 25) rfl w1.heap.size _ rfl rfl 26 _ (Blk.new w1 26 _) (size26 _ HBL.out) (by rw [size_map _ _ _ HBL.out]; rfl) (oneCell_map _ (fun _ => rfl) _) ?_
                   intro w2 hBB hg2
                   have hs2 := hg2.size
                   simp only [World.size_alloc] at hs2
                   have hbel2 := below_grown (hbel1.alloc hbel1.size _) hg2 (by simp; omega) hbel1.size
                   have hbK2 := (hbK1.alloc _).gro hg2 (by omega)
                   have hbN2 := (hbN1.alloc _).gro hg2 (by omega)
                   have hRB2 := (hRB1.alloc _).grown hg2 (fun e => by injection e with e; omega)
                   have hQ3 := hQ2.out w2 (grown_trans (World.grownBy_alloc w1 _ _) hg2)
                   have hblt : w0.heap.size < w1.heap.size := hgl
                   clear hg2)
      clear hsl hn
      have hB0 : XIn w w0.heap.size w1.heap.size key nonce s.data.toList ctr B (64 * k + 0) w2 := ⟨⟨hbel2, hQ3, hbK2, hbN2, hRB2⟩, hBB⟩
      clear hbel2 hQ2 hQ3 hbK2 hbN2 hRB2 hBB hQ1 hgl hkl1 hnl1
      obtain ⟨wo, rfl⟩ : ∃ wo : World, wo = w2 := ⟨_, rfl⟩
      go_loopw [13, 38] (fun _ i wr => ∃ j : Nat, j ≤ n ∧ i = .int .i64 j ∧ XIn w w0.heap.size w1.heap.size key nonce s.data.toList ctr B (64 * k + j) wr) (fun _ i _ => n - (intOf i).toNat)
      case atStart => exact ⟨0, Nat.zero_le _, rfl, hB0⟩
      case round =>
        clear hB0
        obtain ⟨j, hj, rfl, hR⟩ := hrel
        by_cases hlt2 : j < n
        · have hd2 : decide ((j : Int) < (n : Int)) = true := by simp; omega
          have hc1 := hR.1.2.2.2.2.cell (64 * k + j) (by rw [length_cPart, HSL.out]; omega)
          rw [cPart_getD _ _ _ _ _ (by rw [HSL.out]; omega)] at hc1
          have hf1 := hR.1.2.2.2.2.2.1 (64 * k + j) (by rw [length_cPart, HSL.out]; omega)
          have hc2 := (hR.2.cell j).trans (map_get U8 0 B j (by rw [HBL.out]; omega))
          have hnx := hR.next (by rw [HSL.out]; omega) ⟨by omega, hblt⟩ HB.out (by omega) (by have := HQ.out.lt; omega)
          obtain ⟨x, hx⟩ : ∃ x, x = s.data.toList.getD (64 * k + j) 0 := ⟨_, rfl⟩
          obtain ⟨y, hy⟩ : ∃ y, y = B.getD j 0 := ⟨_, rfl⟩
          rw [← hx] at hc1 hnx
          rw [← hy] at hc2 hnx
          have HNX := hid hnx
          have hjz : (0 : Int) ≤ j := by omega
          have hj8 : (j : Int) < 64 := by omega
          have hjn : (j : Int) < n := by omega
          clear hx hy hR hnx
          go_wp2
          go_region
          go_wp2
          go_roundw
          case rel => exact ⟨j + 1, by omega, by go_num, HNX.out⟩
          case measure => simp [intOf]; omega
        · rw [show j = n by omega] at hR
          have hd2 : decide ((j : Int) < (n : Int)) = false := by simp; omega
          have hL : cPart key ctr nonce s.data.toList (64 * k + n) = cPart key ctr nonce s.data.toList (64 * (k + 1)) := by
            rcases hor with h | h
            · rw [h]; rfl
            · rw [cPart_all _ _ _ _ _ (by rw [HSL.out]; omega), cPart_all _ _ _ _ _ (by rw [HSL.out]; omega)]
          have hR2 := hR.1
          unfold XRel at hR2
          rw [hL] at hR2
          have hcn : ctr + UInt32.ofNat k + 1 = ctr + UInt32.ofNat (k + 1) := by rw [UInt32.ofNat_add, UInt32.add_assoc]; rfl
          have HCN := hid hcn
          clear hR hL hcn
          go_wp2
          go_roundw
          case rel => exact ⟨k + 1, by omega, by go_num, by rw [← HCN.out]; rfl, hR2⟩
          case measure => simp [intOf]; omega
    · have hd : decide (64 * (k : Int) < (s.size : Int)) = false := by simp; omega
      obtain ⟨hbel, _, _, _, hRB⟩ := hR
      rw [cPart_all _ _ _ _ _ (by rw [HSL.out]; omega)] at hRB
      have hLn : (cXor key ctr nonce s.data.toList).length = s.size := by rw [length_cXor, HSL.out]
      have HLN := hid hLn
      clear hLn
      go_wp2_with (refine wpList_string_of _ rfl 28 9 5 (.tmp 51) rfl Tryd.underlying28 Tryd.underlying5 Tryd.underlying9 w0.heap.size 0 s.size cap (cXor key ctr nonce s.data.toList) rfl HLN.out hRB.1 ?_)
      go_ret
      exact ⟨rfl, hbel⟩
end Go.Proofs.YtaenhghihhhikaaDoor
