/-
  eachBlock at one size, walked.
-/
import Derived.Test.YtghjndcbnnbloaaDoorEc
namespace Go.Proofs.YtghjndcbnnbloaaDoor
open Go.RowKit

def blocks64 (s : St64) (T : List UInt8) : Nat → St64
  | 0 => s
  | k + 1 => comp64 (blocks64 s T k) ((T.drop (k * 128)).take 128)

/-- What holds when p bytes have been taken and u of them wait in block m. -/
def EachInv64 (w : World) (g m gc C : Nat) (s : St64) (T : List UInt8) (all : List ByteArray) (p u : Nat) (wr : World) : Prop :=
  w.grownBy wr (some g) ∧ KAt64 wr ∧ Blk wr g 47 (blocks64 s T (p / 128)).cells ∧ Strs wr (some ⟨gc, 0, none⟩) all.length C all ∧ u = p % 128 ∧
    ∃ L : List UInt8, L.length = 128 ∧ L.take u = (T.drop (p - u)).take u ∧ Blk wr m 5 (L.map U8).toArray
def InnerRel64 (w : World) (g m gc C : Nat) (s : St64) (T : List UInt8) (all : List ByteArray) (q : Nat) (u sv : Value) (wr : World) : Prop :=
  ∃ (p : Nat) (S : ByteArray), u = .int .i64 ((p % 128 : Nat) : Int) ∧ sv = .string S ∧ p + S.size = q ∧ S.data.toList = (T.drop p).take S.size ∧ EachInv64 w g m gc C s T all p (p % 128) wr
theorem KAt64.farRow {w : World} (h : KAt64 w) {m : Nat} (hne : m ≠ 1) (cs : Array Value) : KAt64 (w.setRow m cs) := fun j hj => (cell_setRow_far _ _ _ _ (fun e => hne e.symm)).trans (h j hj)

set_option maxHeartbeats 2000000 in
set_option maxRecDepth 100000 in
theorem each64_any (g n c : Nat) (A : Option Addr) (ss : List ByteArray) (s : St64) (w : World) (hs : Strs w A n c ss) (hg : Blk w g 47 s.cells) (hK : KAt64 w) (hgne : g ≠ 1) (hn : n ≤ 10000) (hlen : sumLen ss ≤ 4294967296) :
    Calls Tryd.prog 24 #[.int .i64 128, .slice A n c, .func (.func 28) #[] #[.pointer (some ⟨g, 0, none⟩)]] w fun e w' => e = .returned (.tuple #[]) ∧ w.grownBy w' (some g) ∧
      Blk w' g 47 (blocks64 s (flat ss ++ padBytes (padLen 128 (sumLen ss)) (sumLen ss)) ((flat ss ++ padBytes (padLen 128 (sumLen ss)) (sumLen ss)).length / 128)).cells := by
  obtain ⟨i0, hi, hz0, hz1, hz2⟩ := info_parts info5
  go_enter Tryd.func24, Tryd.ntmps24
  go_wp2_with (at_make; refine wpList_make_blk w rfl (.tmp 11) (.tmp 11) 28 rfl 5 i0 _ rfl Tryd.underlying28 hi hz0 hz1 _ _ _ _ 128 rfl rfl ?c1 ?c2 ?c3 ?c4 ?_)
  case c1 => rfl
  case c2 => rfl
  case c3 => omega
  case c4 => unfold maxLen; omega
  intro w1 hm1 hbel1 hlt1
  have hmne : g ≠ w.heap.size := by have := hg.lt; omega
  have hK1 := hK.below hbel1 hK.lt
  have hg1 := hg.below hbel1 hg.lt
  have hs1 := hs.below' hbel1
  go_wp2_with fail
  refine (padding128_any n c A ss w1 hs1 (by omega) hlen).mono ?_
  rintro e w2 ⟨rfl, hbel2⟩
  have hm2 := hm1.below hbel2 hlt1
  have hK2 := hK1.below hbel2 hK1.lt
  have hg2 := hg1.below hbel2 hg1.lt
  have hs2 := hs1.below' hbel2
  have hbel2' : Below w.heap.size w w2 := hbel1.trans (hbel2.mono hbel1.size)
  have hsz2 := hbel2'.size
  obtain ⟨pd, hpd⟩ : ∃ pd : ByteArray, pd = ⟨(padBytes (padLen 128 (sumLen ss)) (sumLen ss)).toArray⟩ := ⟨_, rfl⟩
  rw [← hpd]
  have hT : flat ss ++ padBytes (padLen 128 (sumLen ss)) (sumLen ss) = flat (ss ++ [pd]) := by rw [flat_append, flat_one, hpd]
  obtain ⟨T, hTT⟩ : ∃ T, T = flat (ss ++ [pd]) := ⟨_, rfl⟩
  have HT := hid (hT.trans hTT.symm)
  have HTF := hid hTT
  clear hT hTT hpd
  obtain ⟨w3, hw3, hbel3, hx3, hy3, hsz3⟩ := two_rows w2 9 31 #[.string pd] #[.slice A n c, .slice (some ⟨w2.heap.size, 0, none⟩) 1 1]
  have HW3 := hid hw3
  have hsz3' : w2.heap.size + 2 ≤ w3.heap.size := by omega
  clear hw3 hsz3
  go_wp2_with fail
  rw [← HW3.out]
  clear HW3
  refine (concat_any (w2.heap.size + 1) A (some ⟨w2.heap.size, 0, none⟩) n 1 c 1 ss [pd] w3 (hy3.cell 0) (hy3.cell 1) (hs2.below' hbel3) ⟨rfl, (fun e => by cases e), (fun ad e j u hu => ?_)⟩ (by omega) (by omega) (by omega)).mono ?_
  · injection e with e
    subst e
    match j, hu with
    | 0, hu => rw [addr_add, hx3.cell]; simpa using hu
    | j + 1, hu => simp at hu
  rintro e w4 ⟨gc, C, hgc, rfl, hs4, hbel4⟩
  obtain ⟨all, hall⟩ : ∃ all, all = ss ++ [pd] := ⟨_, rfl⟩
  rw [← hall] at hs4 HTF
  have hal : all.length = n + 1 := by rw [hall]; simp [hs.1]
  have HAL := hid hal
  have hbel34 : Below w.heap.size w w4 := (hbel2'.trans (hbel3.mono hsz2)).trans (hbel4.mono (by omega))
  have hgcm : gc ≠ w.heap.size := by omega
  have hgg : g ≠ gc := by have := hg.lt; omega
  have hinv : EachInv64 w g w.heap.size gc C s T all 0 0 w4 := by
    have b24 : Below w2.heap.size w2 w4 := hbel3.trans (hbel4.mono (by omega))
    refine ⟨grown_of_below hbel34 _, hK2.below b24 hK2.lt, hg2.below b24 hg2.lt, by rw [hal]; exact hs4, rfl, List.replicate 128 0, by simp, rfl, blk_cast (hm2.below b24 hm2.lt) (by simp; rfl)⟩
  have hsz4 := hbel34.size
  clear hall hal hs4 hm1 hm2 hK1 hK2 hg1 hg2 hs1 hs2 hbel1 hbel2 hbel2' hbel3 hbel4 hx3 hy3 hbel34
  go_wp2
  go_loopw [7, 21] (fun u i wr => ∃ k p : Nat, k ≤ n + 1 ∧ i = .int .i64 k ∧ u = .int .i64 ((p % 128 : Nat) : Int) ∧ p = sumLen (all.take k) ∧ EachInv64 w g w.heap.size gc C s T all p (p % 128) wr) (fun _ i _ => n + 1 - (intOf i).toNat)
  case atStart => exact ⟨0, 0, Nat.zero_le _, rfl, rfl, rfl, hinv⟩
  case round =>
    obtain ⟨k, p, hk, rfl, rfl, hp, hinv⟩ := hrel
    clear hsz4
    by_cases hlt : k < n + 1
    · obtain ⟨S0, hS0⟩ : ∃ S0, all[k]? = some S0 := ⟨_, List.getElem?_eq_getElem (by rw [HAL.out]; omega)⟩
      have hc : wr.cell? ⟨gc, k, none⟩ = some (.string S0) := by
        have := hinv.2.2.2.1.2.2 _ rfl k (.string S0) (by rw [List.getElem?_map, hS0]; rfl)
        rwa [addr_add] at this
      obtain ⟨q, hq⟩ : ∃ q, q = p + S0.size := ⟨_, rfl⟩
      have hkl : k < all.length := by rw [HAL.out]; omega
      have hS0' : all[k] = S0 := by rw [List.getElem?_eq_getElem hkl] at hS0; exact Option.some.inj hS0
      have hqe : q = sumLen (all.take (k + 1)) := by rw [sumLen_succ _ _ hkl, ← hp, hS0', hq]
      have hpart : S0.data.toList = (T.drop p).take S0.size := by
        have := flat_part all k hkl
        rw [hS0', ← HTF.out, show ((all.take k).map ByteArray.size).sum = p from hp.symm] at this
        exact this
      have HQ := hid hq
      have HQE := hid hqe
      have HPART := hid hpart
      clear hS0 hS0' hq hqe hpart hkl hp
      have hd : decide ((k : Int) < (n : Int) + 1) = true := by simp; omega
      go_wp2
      go_loopw [7, 9] (fun u sv wr => InnerRel64 w g w.heap.size gc C s T all q u sv wr) (fun _ sv _ => strLen sv)
      case atStart => exact ⟨p, S0, rfl, rfl, HQ.out.symm, HPART.out, hinv⟩
      case round =>
        clear hinv hc
        obtain ⟨p, S, rfl, rfl, hpq0, hpt0, hinv⟩ := hrel
        have hpq := hid hpq0
        have hpt := hid hpt0
        clear hpq0 hpt0
        by_cases hpos : 0 < S.size
        · obtain ⟨hI1, hI2, hI3, hI4, _, L, hLl, hLt, hI5⟩ := hinv
          obtain ⟨u, hu⟩ : ∃ u, u = p % 128 := ⟨_, rfl⟩
          rw [← hu] at hLt ⊢
          obtain ⟨m, hm⟩ : ∃ m, m = min S.size (128 - u) := ⟨_, rfl⟩
          have hu1 : u < 128 := by omega
          have hm1 : 1 ≤ m := by omega
          have hm2 : m ≤ S.size := by omega
          have hm3 : u + m ≤ 128 := by omega
          have hup : u ≤ p := by rw [hu]; exact Nat.mod_le _ _
          have hdat : S.data.toList.take m = (T.drop p).take m := by rw [hpt.out, List.take_take, Nat.min_eq_left hm2]
          have hbl : (S.data.toList.take m).length = m := by rw [List.length_take, len_data]; omega
          obtain ⟨hn1, hn2⟩ := buf_next T L (S.data.toList.take m) p u m hup (by omega) hLt hdat hbl
          have HU := hid hu
          have HM := hid hm
          have HLl := hid hLl
          have HN1 := hid hn1
          have HN2 := hid hn2
          have hpt2 : Hid ((S.extract m S.size).data.toList = (T.drop (p + m)).take (S.extract m S.size).size) := hid (by
            have e : (S.extract m S.size).size = S.size - m := by simp
            rw [ext_data, e, hpt.out, List.drop_take, List.drop_drop])
          have hpq2 : Hid (p + m + (S.extract m S.size).size = q) := hid (by
            have e : (S.extract m S.size).size = S.size - m := by simp
            have := hpq.out
            rw [e]; omega)
          have hms : Hid ((S.extract m S.size).size < S.size) := hid (by simp; omega)
          clear hu hm hLl hLt hdat hbl hn1 hn2 hpt hpq
          by_cases hfull : u + m = 128
          · have hb : (((u : Int) + (m : Int)) == 128) = true := by simp; omega
            have HF := hid hfull
            clear hfull
            go_wp2_with (refine wpList_copy_head wr rfl (.tmp 30) (.tmp 31) 28 9 5 rfl Tryd.underlying28 (by kernel_rfl) w.heap.size u (128 - u) (128 - u) S L 5 m rfl rfl HM.out hI5 (by rw [HLl.out]; exact hm3) ?_; intro wc hLc hgc; have hI1c := grown_then_far hI1 hgc (Nat.le_refl _); have hI2c := hI2.grown hgc (by have := hK.lt; omega); have hI3c := hI3.gro hgc hmne; have hI4c := hI4.gro hgc hgcm; clear hI1 hI2 hI3 hI4 hI5)
            have hLen : (L.take u ++ S.data.toList.take m ++ L.drop (u + m)).length = 128 := by rw [HN1.out, HLl.out]
            have hLe : L.take u ++ S.data.toList.take m ++ L.drop (u + m) = (T.drop (p - u)).take 128 := by
              have := HN2.out
              rw [HF.out, List.take_of_length_le (by rw [← HF.out, hLen, HF.out]; exact Nat.le_refl _)] at this
              rw [HF.out]; exact this
            refine (absorb64_any g w.heap.size 0 128 _ (blocks64 s T (p / 128)) wc hI3c (bytes_of_list hLc) hLen (by omega) hI2c).mono ?_
            rintro e wd ⟨rfl, hgd, hgn⟩
            have hinv2 : EachInv64 w g w.heap.size gc C s T all (p + m) ((p + m) % 128) wd := by
              have hU := HU.out
              have hF := HF.out
              have e1 : (p + m) / 128 = p / 128 + 1 := by omega
              have e2 : p - u = p / 128 * 128 := by omega
              refine ⟨grown_trans hI1c hgd, hI2c.grown hgd hgne, ?_, hI4c.gro hgd (fun e => hgg e.symm), rfl, _, hLen, ?_, hLc.gro hgd (fun e => hmne e.symm)⟩
              · rw [e1, blocks64, ← e2, ← hLe]; exact hgn
              · rw [show (p + m) % 128 = 0 by omega]; rfl
            have hz : (0 : Int) = (((p + m) % 128 : Nat) : Int) := by have := HU.out; have := HF.out; omega
            have HZ := hid hz
            clear hLen hLe hgd hgn hI1c hI2c hI3c hI4c hLc hgc hz
            go_wp2
            go_roundw
            case rel => exact ⟨p + m, S.extract m S.size, by rw [← HZ.out], rfl, hpq2.out, hpt2.out, hinv2⟩
            case measure => exact hms.out
          · have hb : (((u : Int) + (m : Int)) == 128) = false := by simp; omega
            have HF := hid hfull
            clear hfull
            go_wp2_with (refine wpList_copy_head wr rfl (.tmp 30) (.tmp 31) 28 9 5 rfl Tryd.underlying28 (by kernel_rfl) w.heap.size u (128 - u) (128 - u) S L 5 m rfl rfl HM.out hI5 (by rw [HLl.out]; exact hm3) ?_; intro wc hLc hgc; have hI1c := grown_then_far hI1 hgc (Nat.le_refl _); have hI2c := hI2.grown hgc (by have := hK.lt; omega); have hI3c := hI3.gro hgc hmne; have hI4c := hI4.gro hgc hgcm; clear hI1 hI2 hI3 hI4 hI5)
            have hinv2 : EachInv64 w g w.heap.size gc C s T all (p + m) ((p + m) % 128) wc := by
              have hU := HU.out
              have hF := HF.out
              have e1 : (p + m) / 128 = p / 128 := by omega
              have e2 : (p + m) % 128 = u + m := by omega
              refine ⟨hI1c, hI2c, ?_, hI4c, rfl, _, (by rw [HN1.out, HLl.out]), ?_, hLc⟩
              · rw [e1]; exact hI3c
              · rw [e2, show p + m - (u + m) = p - u by omega]; exact HN2.out
            have hz : ((u : Int) + (m : Int)) = (((p + m) % 128 : Nat) : Int) := by have := HU.out; have := HF.out; omega
            have HZ := hid hz
            clear hI1c hI2c hI3c hI4c hLc hgc hz
            go_roundw
            case rel => exact ⟨p + m, S.extract m S.size, by rw [← HZ.out], rfl, hpq2.out, hpt2.out, hinv2⟩
            case measure => exact hms.out
        · have hd2 : decide ((0 : Int) < (S.size : Int)) = false := decide_eq_false (by omega)
          have hpp : p = q := by have := hpq.out; omega
          have hinv3 : EachInv64 w g w.heap.size gc C s T all q (q % 128) wr := by rw [← hpp]; exact hinv
          have HPP := hid hpp
          clear hinv hpp
          go_wp2
          go_roundw
          case rel => exact ⟨k + 1, q, by omega, by go_num, by rw [HPP.out], HQE.out, hinv3⟩
          case measure => simp [intOf]; omega
    · have hd : decide ((k : Int) < (n : Int) + 1) = false := by simp; omega
      have hlenT : T.length = p := by
        rw [hp, List.take_of_length_le (by rw [HAL.out]; omega), HTF.out, length_flat]; rfl
      have HLT := hid hlenT
      clear hlenT hp
      go_wp2
      go_end0
      exact ⟨rfl, hinv.1, by rw [HT.out, HLT.out]; exact hinv.2.2.1⟩

end Go.Proofs.YtghjndcbnnbloaaDoor
