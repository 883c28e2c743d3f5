/-
  The reference's sum at one width, walked.
-/
import Derived.Test.YtghjndcbnnbloaaDoorRb64
import Derived.Test.YtghjndcbnnbloaaDoorRt
import Derived.Test.YtghjndcbnnbloaaDoorEc
namespace Go.Proofs.YtghjndcbnnbloaaDoor
open Go.RowKit
attribute [local go_sem] and_n64 or_n64 xor_n64 not_n64 add_n64 add_n64' mul_n64 wrap_n64

/-- How many zeros make the length fit. -/
def zer64 (n : Nat) : Nat := (128 - (n + 1 + 16) % 128) % 128
def SumA64 (w : World) (T : List UInt8) (s : Value) (wr : World) : Prop :=
  ∃ (z : Nat) (S : ByteArray), z ≤ zer64 T.length ∧ s = .string S ∧ S.data.toList = T ++ 128 :: List.replicate z 0 ∧ Below w.heap.size w wr
def SumB64 (w : World) (T : List UInt8) (s i : Value) (wr : World) : Prop :=
  ∃ (z : Nat) (S : ByteArray), z ≤ 8 ∧ i = .int .i64 ((z : Int) + 8) ∧ s = .string S ∧ S.data.toList = T ++ 128 :: List.replicate (zer64 T.length + z) 0 ∧ Below w.heap.size w wr
def SumC64 (w : World) (B : Nat) (b V i : Value) (wr : World) : Prop :=
  ∃ k g c : Nat, k ≤ 8 ∧ i = .int .i64 k ∧ b = .int .i64 ((B / 256 ^ k : Nat) : Int) ∧ V = .slice (some ⟨g, 0, none⟩) k c ∧ Bytes wr g 0 (lowBytes B k) ∧ Below w.heap.size w wr
def rblocks64 (s : St64) (T : List UInt8) : Nat → St64
  | 0 => s
  | k + 1 => rblock64 (rblocks64 s T k) ((T.drop (k * 128)).take 128)
def rstart64 : St64 := { v0 := 0x6a09e667f3bcc908, v1 := 0xbb67ae8584caa73b, v2 := 0x3c6ef372fe94f82b, v3 := 0xa54ff53a5f1d36f1, v4 := 0x510e527fade682d1, v5 := 0x9b05688c2b3e6c1f, v6 := 0x1f83d9abfb41bd6b, v7 := 0x5be0cd19137e2179 }
def rpart64 (x : UInt64) (n : Nat) : List UInt8 := (List.range n).map fun j => byte64 x (7 - j)
def rdig64 (st : St64) : Nat → List UInt8
  | 0 => []
  | k + 1 => rdig64 st k ++ rpart64 (stN64 st k) 8
def rsum64 (T : List UInt8) : List UInt8 := rdig64 (rblocks64 rstart64 (T ++ padBytes (padLen 128 T.length) T.length) ((T ++ padBytes (padLen 128 T.length) T.length).length / 128)) 8
def SumD64 (w : World) (P : List UInt8) (M : Nat) (V i : Value) (wr : World) : Prop :=
  ∃ k q hb hc : Nat, k ≤ M ∧ q = k * 128 ∧ i = .int .i64 q ∧ V = .slice (some ⟨hb, 0, none⟩) 8 hc ∧ HRow64 wr hb (rblocks64 rstart64 P k) ∧ Below w.heap.size w wr ∧ hb < wr.heap.size
theorem half_val64 (x : UInt64) : IntKind.u64.wrap ((n64 x).tdiv 4294967296) = n64 (x / 4294967296) := by
  have hx0 := n64_nonneg x
  have hx1 := n64_lt x
  rw [Int.tdiv_eq_ediv_of_nonneg hx0, wrap_u64]
  have e : n64 (x / 4294967296) = n64 x / 4294967296 := by unfold n64; rw [UInt64.toNat_div]; show ((x.toNat / 4294967296 : Nat) : Int) = _; omega
  rw [e]; omega
theorem extract_data64 (P : ByteArray) (a b : Nat) : (P.extract a b).data.toList = (P.data.toList.drop a).take (b - a) := by simp [ByteArray.data_extract]
theorem rpart_succ64 (x : UInt64) (n : Nat) : rpart64 x (n + 1) = rpart64 x n ++ [byte64 x (7 - n)] := by simp [rpart64, List.range_succ]
theorem length_rpart64 (x : UInt64) (n : Nat) : (rpart64 x n).length = n := by simp [rpart64]
theorem length_rdig64 (st : St64) (k : Nat) : (rdig64 st k).length = k * 8 := by
  induction k with
  | zero => rfl
  | succ k ih => simp [rdig64, ih, length_rpart64]; omega
def SumE64 (w : World) (st : St64) (V i : Value) (wr : World) : Prop :=
  ∃ k g c : Nat, k ≤ 8 ∧ i = .int .i64 k ∧ V = .slice (some ⟨g, 0, none⟩) (k * 8) c ∧ wr.ownsRow w.heap.size 5 1 (.slice (some ⟨g, 0, none⟩) (k * 8) c) (k * 8) ((rdig64 st k).map U8) ∧ Below w.heap.size w wr
def SumF64 (w : World) (L : List UInt8) (n : Nat) (x : UInt64) (V i : Value) (wr : World) : Prop :=
  ∃ m g c : Nat, m ≤ 8 ∧ i = .int .i64 ((m : Int) - 1) ∧ V = .slice (some ⟨g, 0, none⟩) (n + (8 - m)) c ∧ wr.ownsRow w.heap.size 5 1 (.slice (some ⟨g, 0, none⟩) (n + (8 - m)) c) (n + (8 - m)) ((L ++ rpart64 x (8 - m)).map U8) ∧ Below w.heap.size w wr
theorem startRow64 {w : World} {b : Nat} (h : Blk w b 46 (startL.map U64).toArray) : HRow64 w b rstart64 := fun j hj => by
  rw [h.cell]
  match j, hj with
  | 0, _ => rfl
  | 1, _ => rfl
  | 2, _ => rfl
  | 3, _ => rfl
  | 4, _ => rfl
  | 5, _ => rfl
  | 6, _ => rfl
  | 7, _ => rfl
theorem bytes_of_listR {w : World} {g t : Nat} {L : List UInt8} (h : Blk w g t (L.map U8).toArray) : Bytes w g 0 L := fun j hj => by
  rw [h.cell, Nat.zero_add]; simp [hj]
theorem size_eq_len (S : ByteArray) : S.size = S.data.toList.length := rfl
theorem app_data (S : ByteArray) (l : List UInt8) : (S ++ ⟨l.toArray⟩).data.toList = S.data.toList ++ l := by
  rw [ByteArray.data_append, Array.toList_append]

set_option maxHeartbeats 2000000 in
set_option maxRecDepth 100000 in
theorem refSum64_pad (S0 : ByteArray) (w : World) (hs : S0.size ≤ 1000000) :
    Calls Tryd.prog 31 #[.string S0, .int .i64 64] w fun e w' => e = .returned (.string ⟨(rsum64 S0.data.toList).toArray⟩) ∧ Below w.heap.size w w' := by
  obtain ⟨i0, hi, hz0, hz1, hz2⟩ := info_parts info46_64
  obtain ⟨i5, hi5, hy0, hy1, hy2⟩ := info_parts info5
  have b128 : ∀ W : World, Bytes (W.alloc (.cells #[.int .u8 128] 5)) W.heap.size 0 [128] := fun W => bytes_of_listR (blk_cast (Blk.new W 5 _) (by kernel_rfl))
  have b0 : ∀ W : World, Bytes (W.alloc (.cells #[.int .u8 0] 5)) W.heap.size 0 [0] := fun W => bytes_of_listR (blk_cast (Blk.new W 5 _) (by kernel_rfl))
  obtain ⟨T, hT⟩ : ∃ T, T = S0.data.toList := ⟨_, rfl⟩
  have hTl : T.length = S0.size := by rw [hT]; rfl
  have HT := hid hT
  have HTL := hid hTl
  have hzz : zer64 T.length < 128 := by unfold zer64; exact Nat.mod_lt _ (by decide)
  clear hT hTl
  go_enter Tryd.func31, Tryd.ntmps31
  go_wp2_with (refine wpList_string_of _ rfl 28 9 5 (.tmp 23) rfl Tryd.underlying28 Tryd.underlying5 Tryd.underlying9 w.heap.size 0 1 1 [128] rfl rfl (b128 _) ?_)
  go_loopw [0] (fun s wr => SumA64 w T s wr) (fun s _ => 128 - (strLen s - S0.size))
  case atStart => exact ⟨0, _, Nat.zero_le _, rfl, by rw [app_data, HT.out]; rfl, (Below.refl _ _).alloc (Nat.le_refl _) _⟩
  case round =>
    obtain ⟨z, S, hz, rfl, hS, hbel⟩ := hrel
    have hSz : S.size = S0.size + 1 + z := by rw [size_eq_len, hS, List.length_append, List.length_cons, List.length_replicate, HTL.out]; omega
    have hSz1 : S.size ≤ 2000000 := by omega
    have HS := hid hS
    have HSZ := hid hSz
    by_cases hlt : z < zer64 T.length
    · have htest : ((((S.size : Int) + 16) % 128) != 0) = true := by
        rw [bne_iff_ne, hSz]
        have := HTL.out
        unfold zer64 at hlt
        omega
      clear hS hSz
      go_wp2_with (refine wpList_string_of _ rfl 28 9 5 (.tmp 35) rfl Tryd.underlying28 Tryd.underlying5 Tryd.underlying9 wr.heap.size 0 1 1 [0] rfl rfl (b0 _) ?_)
      go_roundw
      case rel => exact ⟨z + 1, _, by omega, rfl, by rw [app_data, HS.out, List.append_assoc, List.cons_append, ← List.replicate_succ'], hbel.alloc hbel.size _⟩
      case measure =>
        have := HSZ.out
        show 128 - ((S ++ ⟨#[0]⟩ : ByteArray).size - S0.size) < 128 - (S.size - S0.size)
        have e : (S ++ ⟨#[0]⟩ : ByteArray).size = S.size + 1 := by rw [ByteArray.size_append]; rfl
        rw [e]; omega
    · have htest : ((((S.size : Int) + 16) % 128) != 0) = false := by
        have hzz2 : z = zer64 T.length := by omega
        have := HTL.out
        rw [bne_eq_false_iff_eq, hSz]
        unfold zer64 at hzz2
        omega
      have hzz2 : z = zer64 T.length := by omega
      have HS2 := hid (show S.data.toList = T ++ 128 :: List.replicate (zer64 T.length + 0) 0 by rw [hS, hzz2]; rfl)
      clear hS hSz HS HSZ hzz2 hlt hz
      go_wp2
      go_loopw [0, 7] (fun s i wx => SumB64 w T s i wx) (fun _ i _ => 16 - (intOf i).toNat)
      case atStart => exact ⟨0, S, Nat.zero_le _, rfl, rfl, HS2.out, hbel⟩
      case round =>
        clear HS2 hbel htest
        obtain ⟨z, S, hz, rfl, rfl, hS, hbel⟩ := hrel
        have hSz : S.size ≤ 2000000 := by
          have := HTL.out
          rw [size_eq_len, hS, List.length_append, List.length_cons, List.length_replicate]; omega
        have HS := hid hS
        clear hS
        by_cases hlt : z < 8
        · have hd : decide ((z : Int) + 8 < 16) = true := decide_eq_true (by omega)
          go_wp2_with (refine wpList_string_of _ rfl 28 9 5 (.tmp 45) rfl Tryd.underlying28 Tryd.underlying5 Tryd.underlying9 wr.heap.size 0 1 1 [0] rfl rfl (b0 _) ?_)
          go_roundw
          case rel => exact ⟨z + 1, _, by omega, by go_num, rfl, by rw [app_data, HS.out, List.append_assoc, List.cons_append, ← List.replicate_succ', Nat.add_assoc], hbel.alloc hbel.size _⟩
          case measure => simp [intOf]; omega
        · have hd : decide ((z : Int) + 8 < 16) = false := decide_eq_false (by omega)
          have HS2 := hid (show S.data.toList = T ++ 128 :: List.replicate (zer64 T.length + 8) 0 by rw [HS.out, show z = 8 by omega])
          obtain ⟨B, hB⟩ : ∃ B, B = S0.size * 8 := ⟨_, rfl⟩
          have hBlt : B < 18446744073709551616 := by omega
          have hBle : B ≤ 8000000 := by omega
          have hB8 : (8 : Int) * (S0.size : Int) = ((B / 256 ^ 0 : Nat) : Int) := by rw [Nat.pow_zero, Nat.div_one]; omega
          have HB := hid hB
          have HB8 := hid hB8
          clear HS hB hB8
          go_wp2
          go_loopw [6, 8, 9] (fun b V i wx => SumC64 w B b V i wx) (fun _ _ i _ => 8 - (intOf i).toNat)
          case atStart => exact ⟨0, _, 0, Nat.zero_le _, rfl, by rw [HB8.out], rfl, (fun j h => by simp [lowBytes] at h), hbel.alloc hbel.size _⟩
          case round =>
            obtain ⟨wo, rfl⟩ : ∃ wo : World, wo = wr := ⟨_, rfl⟩
            clear hbel hd hlt
            obtain ⟨k, tg, tc, hk, rfl, rfl, rfl, hby, hbel⟩ := hrel
            by_cases hlt : k < 8
            · have hd : decide ((k : Int) < 8) = true := decide_eq_true (by omega)
              have hbv := byte_low B k hBlt hlt
              have hnext : B / 256 ^ (k + 1) = B / 256 ^ k / 256 := by rw [Nat.pow_succ, Nat.div_div_eq_div_mul]
              have HNX := hid hnext
              have hqle : B / 256 ^ k ≤ B := Nat.div_le_self _ _
              obtain ⟨q, hq⟩ : ∃ q, q = B / 256 ^ k := ⟨_, rfl⟩
              rw [← hq] at hbv hqle ⊢
              have HQ := hid hq
              clear hq hnext
              have hll := length_lowBytes B k
              have HLL := hid hll
              clear hll
              have hnew : ∀ (o : Obj) j u, ((lowBytes B k).map U8)[j]? = some u → (wo.alloc o).cell? ⟨tg, 0 + j, none⟩ = some u := fun o j u hu => by
                have hj : j < (lowBytes B k).length := by have := (List.getElem?_eq_some_iff.1 hu).1; simpa using this
                have hcj := hby j hj
                rw [World.cell?_alloc_lt wo o ⟨tg, 0 + j, none⟩ (block_lt_of_cell hcj), hcj, ← hu, List.getElem?_map, List.getElem?_eq_getElem hj]; rfl
              go_wp2_with (at_builtin; refine step_append rfl (.tmp 56) (.tmp 57) 28 rfl w.heap.size 5 i5 _ 1 Tryd.underlying28 hi5 hy0 hy1 hy2 rfl (by omega) _ 1 [U8 (byte64 (UInt64.ofNat B) k)] rfl (own_lit wo 5 #[U8 (byte64 (UInt64.ofNat B) k)] 1 rfl (by decide) _ hbel.size) tg 0 k tc ((lowBytes B k).map U8) rfl (by simp [HLL.out]) (hnew _) (by intro u hu; simp at hu; obtain ⟨x, _, rfl⟩ := hu; rfl) (by omega) (by omega) (by have := hbel.size; simp; omega) ?_; intro g2 c2 w2 hown2 _ hb2)
              go_roundw
              case rel =>
                refine ⟨k + 1, g2, c2, by omega, by go_num, ?_, by rw [Nat.add_comm], ?_, (hbel.alloc hbel.size _).trans hb2⟩
                · rw [HNX.out, ← HQ.out]; exact congrArg (Value.int .i64) (by omega)
                · intro j hj
                  have hl2 : (lowBytes B (k + 1)).length = k + 1 := length_lowBytes _ _
                  rw [Nat.zero_add, own_cell hown2 j (by omega)]
                  show ((lowBytes B (k + 1)).map U8)[j]? = _
                  rw [List.getElem?_map, List.getElem?_eq_getElem hj]; rfl
              case measure => simp [intOf]; omega
            · have hd : decide ((k : Int) < 8) = false := decide_eq_false (by omega)
              have hby8 : Bytes wo tg 0 (lowBytes B 8) := by rw [show 8 = k by omega]; exact hby
              have hl8 := length_lowBytes B 8
              have hk8 : (Value.slice (some ⟨tg, 0, none⟩) k tc) = .slice (some ⟨tg, 0, none⟩) 8 tc := by rw [show k = 8 by omega]
              rw [hk8]
              have HL8 := hid hl8
              clear hk8 hl8 hby
              have hsz8 : (ByteArray.mk (lowBytes B 8).toArray).size = 8 := by show (lowBytes B 8).toArray.size = 8; rw [List.size_toArray, HL8.out]
              go_wp2_with (refine wpList_string_of _ rfl 28 9 5 (.tmp 62) rfl Tryd.underlying28 Tryd.underlying5 Tryd.underlying9 tg 0 8 tc (lowBytes B 8) rfl HL8.out hby8 ?_)
              refine (start_any wo).mono ?_
              rintro e w1 ⟨rfl, hb1, hst1⟩
              have hbel1 : Below w.heap.size w w1 := hbel.trans (hb1.mono hbel.size)
              have hSP : (S ++ ⟨(lowBytes B 8).toArray⟩ : ByteArray).data.toList = T ++ padBytes (padLen 128 T.length) T.length := by
                rw [app_data, HS2.out, HB.out, ← HTL.out, pad_split T.length (padLen 128 T.length) (zer64 T.length + 8) (by unfold padLen zer64; omega)]
                simp
              obtain ⟨P, hP⟩ : ∃ P : ByteArray, P = S ++ ⟨(lowBytes B 8).toArray⟩ := ⟨_, rfl⟩
              rw [← hP] at hSP ⊢
              have hPsz : P.size % 128 = 0 ∧ P.size ≤ 3000000 := by
                have := HTL.out
                rw [size_eq_len, hSP]
                simp only [List.length_append, padBytes, List.length_map, List.length_range]
                unfold padLen
                omega
              obtain ⟨M, hM⟩ : ∃ M, P.size = M * 128 := ⟨P.size / 128, by omega⟩
              have HM := hid hM
              have HSP := hid hSP
              have hMle : M * 128 ≤ 3000000 := by omega
              have hhl := hst1.lt
              clear hP hSP hM hby8 HL8 hsz8 hb1 HS2
              go_wp2
              have hR := startRow64 hst1
              have hbelR := hbel1
              have hltR := hhl
              clear hst1 hbel1 hhl
              go_loopw [10, 12] (fun V i wx => SumD64 w P.data.toList M V i wx) (fun _ i _ => M * 128 - (intOf i).toNat)
              case atStart => exact ⟨0, 0, wo.heap.size, 8, Nat.zero_le _, (Nat.zero_mul _).symm, rfl, rfl, hR, hbelR, hltR⟩
              case round =>
                clear hR hbelR hltR
                obtain ⟨m, q, hb, hc, hm, hq, rfl, rfl, hR, hbelR, hltR⟩ := hrel
                by_cases hltm : m < M
                · have hMS : m * 128 + 128 ≤ M * 128 := by omega
                  have hd : decide ((q : Int) < (P.size : Int)) = true := decide_eq_true (by rw [HM.out]; omega)
                  have hbd : q + 128 ≤ P.size := by rw [HM.out, hq]; exact hMS
                  have hqM : q + 128 ≤ M * 128 := by rw [hq]; exact hMS
                  have hq3 : q ≤ 3000000 := by omega
                  have HQ := hid hq
                  clear hq
                  go_wp2_with fail
                  refine (refBlock64_any hb hc _ (P.extract q (q + 128)) wr hR (by simp; omega)).mono ?_
                  rintro e w2 ⟨g2, c2, rfl, hg2, hR2, hb2⟩
                  go_wp2
                  go_roundw
                  case rel =>
                    refine ⟨m + 1, q + 128, g2, c2, by omega, by rw [HQ.out]; omega, by go_num, rfl, ?_, hbelR.trans (hb2.mono hbelR.size), block_lt_of_cell (hR2 0 (by decide))⟩
                    rw [extract_data64, show q + 128 - q = 128 by omega, HQ.out] at hR2
                    exact hR2
                  case measure => simp [intOf]; omega
                · have hnq : ¬ q < P.size := (by rw [HM.out, hq]; have := Nat.mul_le_mul_right 128 (show M ≤ m by omega); omega)
                  obtain ⟨st, hst⟩ : ∃ st, st = rblocks64 rstart64 P.data.toList m := ⟨_, rfl⟩
                  have hmM : m = M := by omega
                  have HST := hid hst
                  have HMM := hid hmM
                  rw [← hst] at hR
                  clear hst hmM hq
                  go_wp2
                  obtain ⟨wE, rfl⟩ : ∃ wE : World, wE = wr := ⟨_, rfl⟩
                  go_loopw [13, 101] (fun V i wx => SumE64 wE st V i wx) (fun _ i _ => 8 - (intOf i).toNat)
                  case atStart => exact ⟨0, wE.heap.size, 0, Nat.zero_le _, rfl, rfl, own_lit wE 5 #[] 0 rfl (by decide) _ (Nat.le_refl _), (Below.refl _ _).alloc (Nat.le_refl _) _⟩
                  case round =>
                    obtain ⟨j, g, c, hj, rfl, rfl, hown, hbelE⟩ := hrel
                    by_cases hlt8 : j < 8
                    · have hd8 : decide ((j : Int) < 8) = true := decide_eq_true (by omega)
                      have hcell : wr.cell? ⟨hb, j, none⟩ = some (U64 (stN64 st j)) := (hbelE.cell hltR).trans (hR j hlt8)
                      have hlen := length_rdig64 st j
                      have hsucc : rdig64 st (j + 1) = rdig64 st j ++ rpart64 (stN64 st j) 8 := rfl
                      obtain ⟨x, hx⟩ : ∃ x, x = stN64 st j := ⟨_, rfl⟩
                      obtain ⟨L, hL⟩ : ∃ L, L = rdig64 st j := ⟨_, rfl⟩
                      rw [← hL] at hlen hown hsucc
                      rw [← hx] at hcell hsucc
                      have HSUCC := hid hsucc
                      have HLEN := hid hlen
                      clear hx hL hlen hsucc
                      go_wp2
                      go_loopw [13, 16] (fun V i wx => SumF64 wE L (j * 8) x V i wx) (fun _ i _ => (intOf i + 1).toNat)
                      case atStart => exact ⟨8, g, c, Nat.le_refl _, rfl, rfl, by rw [show rpart64 x (8 - 8) = [] from rfl, List.append_nil]; exact hown, hbelE⟩
                      case round =>
                        clear hcell hown hbelE
                        obtain ⟨m, g2, c2, hm, rfl, rfl, hown2, hbel2⟩ := hrel
                        by_cases hm0 : m = 0
                        · have hm1 : ((m : Int) - 1) = -1 := by omega
                          rw [hm1]
                          have e1 : j * 8 + (8 - m) = (j + 1) * 8 := by omega
                          have e2 : L ++ rpart64 x (8 - m) = rdig64 st (j + 1) := by rw [HSUCC.out, hm0]
                          rw [e1, e2] at hown2
                          rw [e1]
                          clear hm1 e1 e2
                          go_wp2
                          go_roundw
                          case rel => exact ⟨j + 1, g2, c2, by omega, by go_num, rfl, hown2, hbel2⟩
                          case measure => simp [intOf]; omega
                        · obtain ⟨p, hp⟩ : ∃ p : Nat, ((m : Int) - 1) = p := ⟨m - 1, by omega⟩
                          rw [hp]
                          have hp8 : p < 8 := by omega
                          have hmp : m = p + 1 := by omega
                          have hr := byte64_eq x p (by omega)
                          have hmn : min (8 * p) 64 = 8 * p := by omega
                          have e1 : j * 8 + (8 - m) + 1 = j * 8 + (8 - p) := by omega
                          have e2 : (L ++ rpart64 x (8 - m)).map U8 ++ [U8 (byte64 x p)] = (L ++ rpart64 x (8 - p)).map U8 := by
                            rw [show 8 - p = (8 - m) + 1 by omega, rpart_succ64, show 7 - (8 - m) = p by omega, ← List.append_assoc, List.map_append (l₁ := L ++ _)]; rfl
                          obtain ⟨L2, hL2⟩ : ∃ L2, L2 = (L ++ rpart64 x (8 - m)).map U8 := ⟨_, rfl⟩
                          obtain ⟨n2, hn2⟩ : ∃ n2, n2 = j * 8 + (8 - m) := ⟨_, rfl⟩
                          rw [← hL2] at hown2 e2
                          rw [← hn2] at hown2 e1 ⊢
                          have hn2b : n2 ≤ 128 := by omega
                          have E1 := hid e1
                          have E2 := hid e2
                          have HMP := hid hmp
                          clear hp hmp e1 e2 hL2 hn2 hm0
                          go_wp2_with (at_builtin; refine step_append rfl (.tmp 112) (.tmp 118) 28 rfl wE.heap.size 5 i5 _ 1 Tryd.underlying28 hi5 hy0 hy1 hy2 rfl (by omega) _ n2 _ rfl (hown2.alloc _) _ 0 1 1 [U8 (byte64 x p)] rfl rfl (new_one _ 5 _) (by simp [Value.oneCell']) (by omega) (by omega) (by have := hbel2.size; simp; omega) ?_; intro g3 c3 w3 hown3 _ hb3)
                          go_roundw
                          case rel =>
                            refine ⟨p, g3, c3, by omega, rfl, ?_, ?_, (hbel2.alloc hbel2.size _).trans hb3⟩
                            · rw [E1.out]
                            · rw [E1.out, E2.out] at hown3; exact hown3
                          case measure => simp [intOf]
                    · obtain ⟨D, hD⟩ : ∃ D, D = rdig64 st 8 := ⟨_, rfl⟩
                      have hj8 : j = 8 := by omega
                      have hbyD : Bytes wr g 0 D := fun q hq => by
                        have hq2 : q < 8 * 8 := by rw [hD, length_rdig64] at hq; omega
                        rw [Nat.zero_add, own_cell hown q (by omega), hj8, ← hD, List.getElem?_map, List.getElem?_eq_getElem hq]; rfl
                      have hlD : D.length = j * 8 := by rw [hD, length_rdig64, hj8]
                      have HLD := hid hlD
                      have HD := hid hD
                      clear hD hlD hj8
                      go_wp2_with (refine wpList_string_of _ rfl 28 9 5 (.tmp 121) rfl Tryd.underlying28 Tryd.underlying5 Tryd.underlying9 g 0 _ c D rfl HLD.out hbyD ?_)
                      go_ret
                      have hPl : (T ++ padBytes (padLen 128 T.length) T.length).length / 128 = M := by rw [← HSP.out, ← size_eq_len, HM.out]; exact Nat.mul_div_cancel _ (by decide)
                      have hD : D = rsum64 S0.data.toList := by
                        rw [HD.out, HST.out, HMM.out, HSP.out, ← HT.out]
                        unfold rsum64
                        rw [hPl]
                      rw [← hD]
                      exact ⟨rfl, hbelR.trans (hbelE.mono hbelR.size)⟩
end Go.Proofs.YtghjndcbnnbloaaDoor
