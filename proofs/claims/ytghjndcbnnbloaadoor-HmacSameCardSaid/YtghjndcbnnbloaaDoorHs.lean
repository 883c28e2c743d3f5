/-
  hmac.Sum, walked: it is the keyed hash.
-/
import Derived.Test.YtghjndcbnnbloaaDoorHm
import Derived.Test.YtghjndcbnnbloaaDoorLp
namespace Go.Proofs.YtghjndcbnnbloaaDoor
open Go.RowKit
theorem sumLen_append (a b : List ByteArray) : sumLen (a ++ b) = sumLen a + sumLen b := by simp [sumLen]
theorem cell_two (w : World) (t : TypeId) (x y : Value) (o : Obj) : ((w.alloc o).alloc (.cells #[x, y] t)).cell? ⟨w.heap.size + 1, 0, none⟩ = some x ∧ ((w.alloc o).alloc (.cells #[x, y] t)).cell? ⟨w.heap.size + 1, 1, none⟩ = some y := by
  have h := Blk.new (w.alloc o) t #[x, y]
  rw [show (w.alloc o).heap.size = w.heap.size + 1 by simp] at h
  exact ⟨by rw [h.cell]; rfl, by rw [h.cell]; rfl⟩
theorem strs_two {w : World} {g C : Nat} {s s' : ByteArray} {t : TypeId} (h : Blk w g t #[.string s, .string s']) : Strs w (some ⟨g, 0, none⟩) 2 C [s, s'] :=
  ⟨rfl, (fun e => by cases e), (fun ad e j u hu => by
    injection e with e
    subst e
    match j, hu with
    | 0, hu => rw [addr_add, h.cell]; simpa using hu
    | 1, hu => rw [addr_add, h.cell]; simpa using hu
    | j + 2, hu => simp at hu)⟩
set_option maxHeartbeats 1000000 in
set_option maxRecDepth 100000 in
theorem hmac_any (K : ByteArray) (A : Option Addr) (n c : Nat) (ss : List ByteArray) (w : World) (hs : Strs w A n c ss) (hKs : K.size ≤ 1000000) (hn : n ≤ 5000) (hlen : sumLen ss ≤ 1000000) (hK : KAt32 w) :
    Calls Tryd.prog 19 #[.string K, .slice A n c] w fun e w' => e = .returned (.agg ((hmacL K.data.toList (flat ss)).map U8).toArray) ∧ Below w.heap.size w w' := by
  obtain ⟨w1, hw1, hbel1, hz1, hsz1⟩ := one_new w 24 #[Value.int IntKind.u8 0, Value.int IntKind.u8 0, Value.int IntKind.u8 0, Value.int IntKind.u8 0, Value.int IntKind.u8 0, Value.int IntKind.u8 0, Value.int IntKind.u8 0, Value.int IntKind.u8 0, Value.int IntKind.u8 0, Value.int IntKind.u8 0, Value.int IntKind.u8 0, Value.int IntKind.u8 0, Value.int IntKind.u8 0, Value.int IntKind.u8 0, Value.int IntKind.u8 0, Value.int IntKind.u8 0, Value.int IntKind.u8 0, Value.int IntKind.u8 0, Value.int IntKind.u8 0, Value.int IntKind.u8 0, Value.int IntKind.u8 0, Value.int IntKind.u8 0, Value.int IntKind.u8 0, Value.int IntKind.u8 0, Value.int IntKind.u8 0, Value.int IntKind.u8 0, Value.int IntKind.u8 0, Value.int IntKind.u8 0, Value.int IntKind.u8 0, Value.int IntKind.u8 0, Value.int IntKind.u8 0, Value.int IntKind.u8 0]
  have HW1 := hid hw1
  clear hw1 hsz1
  go_enter Tryd.func19, Tryd.ntmps19
  go_wp2_with fail
  rw [← HW1.out]
  clear HW1
  refine (keyBlock_any K w1 hKs (hK.below hbel1 hK.lt)).mono ?_
  rintro e w2 ⟨rfl, hbel2⟩
  have hb02 : Below w.heap.size w w2 := hbel1.trans (hbel2.mono hbel1.size)
  have hz2 := hz1.below hbel2 hz1.lt
  have hlB := length_keyB K.data.toList
  obtain ⟨B, hB⟩ : ∃ B, B = keyB K.data.toList := ⟨_, rfl⟩
  rw [← hB] at hlB ⊢
  have HLB := hid hlB
  have HB := hid hB
  have hsz2 := hb02.size
  have hz2l := hz2.lt
  clear hlB hB hbel1 hbel2 hz1
  go_wp2_with (first
    | (refine wpList_store_blk rfl 26 (.tmp 5) (.tmp 8) rfl w2.heap.size _ rfl rfl 26 _ (Blk.new w2 26 _) (size26 _ HLB.out) (by simp [HLB.out]) (oneCell_bytes64 _) ?_
       intro w3 hB3 hg3
       have hz3 := (hz2.alloc _).gro hg3 (by omega)
       have hb03 : Below w.heap.size w w3 := below_grown (hb02.alloc hb02.size _) hg3 (by simp; omega) hsz2
       clear hg3)
    | (refine wpList_load_blk rfl 26 (.tmp 5) rfl w2.heap.size rfl 26 _ _ hB3 Tryd.underlying26 rfl (size26 _ HLB.out) ?_))
  refine (masked_any B 54 w3 HLB.out).mono ?_
  rintro e w4 ⟨rfl, hbel4⟩
  have hb04 : Below w.heap.size w w4 := hb03.trans (hbel4.mono hb03.size)
  have hz4 := hz3.below hbel4 hz3.lt
  have hB4 := hB3.below hbel4 hB3.lt
  have hlM : (maskL 54 B).length = 64 := by rw [length_maskL, HLB.out]
  obtain ⟨M, hM⟩ : ∃ M : ByteArray, M = ⟨(maskL 54 B).toArray⟩ := ⟨_, rfl⟩
  have hMs : M.size = 64 := by rw [hM]; show (maskL 54 B).toArray.size = 64; rw [List.size_toArray, hlM]
  have hMl : M.data.toList = maskL 54 B := by rw [hM]
  rw [← hM]
  have HM := hid hMl
  have HMS := hid hMs
  clear hM hlM hMs hMl hz2 hz3 hB3 hbel4 hb03 hb02 hsz2
  have hst4 : Strs w4 A n c ss := hs.below' hb04
  obtain ⟨w5, hw5, hbel5, hs5, hc5, hsz5⟩ := two_rows w4 9 31 #[.string M] #[.slice (some ⟨w4.heap.size, 0, none⟩) 1 1, .slice A n c]
  have hc50 : w5.cell? ⟨w4.heap.size + 1, 0, none⟩ = some (.slice (some ⟨w4.heap.size, 0, none⟩) 1 1) := by rw [hc5.cell]; rfl
  have hc51 : w5.cell? ⟨w4.heap.size + 1, 1, none⟩ = some (.slice A n c) := by rw [hc5.cell]; rfl
  have HW5 := hid hw5
  have HC0 := hid hc50
  have HC1 := hid hc51
  clear hw5 hsz5 hc5 hc50 hc51
  go_wp2_with fail
  rw [← HW5.out]
  clear HW5
  refine (concat_any (w4.heap.size + 1) (some ⟨w4.heap.size, 0, none⟩) A 1 n 1 c [M] ss w5 HC0.out HC1.out (strs_one hs5) (hst4.below' hbel5) (by omega) (by omega) (by omega)).mono ?_
  rintro e w6 ⟨g, C, hg, rfl, hst6, hbel6⟩
  have hbel46 : Below w4.heap.size w4 w6 := hbel5.trans (hbel6.mono hbel5.size)
  have hb06 : Below w.heap.size w w6 := hb04.trans (hbel46.mono hb04.size)
  have hz6 := hz4.below hbel46 hz4.lt
  have hB6 := hB4.below hbel46 hB4.lt
  clear HC0 HC1 hs5 hst4 hbel5 hbel6 hbel46 hz4 hB4 hb04 hg
  go_wp2_with fail
  refine (sum256_any (1 + n) C (some ⟨g, 0, none⟩) ([M] ++ ss) w6 hst6 (hK.below hb06 hK.lt) (by omega) (by rw [sumLen_append]; simp only [sumLen, List.map_cons, List.map_nil, List.sum_cons, List.sum_nil, HMS.out] at hlen ⊢; omega)).mono ?_
  rintro e w7 ⟨rfl, hbel7⟩
  rw [flat_append, flat_one, HM.out]
  have hb07 : Below w.heap.size w w7 := hb06.trans (hbel7.mono hb06.size)
  have hz7 := hz6.below hbel7 hz6.lt
  have hB7 := hB6.below hbel7 hB6.lt
  have hlD := length_sha256 (maskL 54 B ++ flat ss)
  obtain ⟨D, hD⟩ : ∃ D, D = sha256 (maskL 54 B ++ flat ss) := ⟨_, rfl⟩
  rw [← hD] at hlD ⊢
  have HD := hid hlD
  have HDX := hid hD
  have hsz7 := hb07.size
  have hz7l := hz7.lt
  have hB7l := hB7.lt
  clear hlD hD hst6 hbel7 hz6 hB6 hb06
  go_wp2_with (first
    | (refine wpList_store_blk rfl 24 (.tmp 6) (.tmp 15) rfl w7.heap.size _ rfl rfl 24 _ (Blk.new w7 24 _) (size24 _ HD.out) (by simp [HD.out]) (oneCell_bytes32 _) ?_
       intro w8 hD8 hg8
       have hz8 := (hz7.alloc _).gro hg8 (by omega)
       have hB8 := (hB7.alloc _).gro hg8 (by omega)
       have hb08 : Below w.heap.size w w8 := below_grown (hb07.alloc hb07.size _) hg8 (by simp; omega) hsz7
       clear hg8))
  dsimp only [Act.put]
  clear hz7 hB7 hb07
  refine wp_region_held_drew (S := fun w' => Blk w' w2.heap.size 26 (B.map U8).toArray ∧ Blk w' w7.heap.size 24 (D.map U8).toArray ∧ (∃ cs, Blk w' w.heap.size 24 cs ∧ cs.size = 32) ∧ Below w.heap.size w w') (by kernel_rfl) ⟨hB8, hD8, ⟨_, hz8, rfl⟩, hb08.drew⟩ (fun hHeld => ?_)
  clear hB8 hD8 hz8
  refine wpAnyH_take (i := 0) (oi := { dst := some 16, op := Op.load 26 (Operand.tmp 5), type := 26, pos := "hmac.go:20", after := #[], guard := none }) (v := .agg (B.map U8).toArray) rfl (by kernel_rfl) (by kernel_rfl) (by kernel_rfl) (fun _ _ _ h => h) (Or.inl ⟨by rfl, ?hy0⟩) hHeld ?_
  case hy0 => (exact fun w' hS => exec_load_blk w' _ _ 26 (.tmp 5) rfl w2.heap.size rfl 26 _ _ hS.1 Tryd.underlying26 rfl (size26 _ HLB.out))
  simp only [Act.put, List.setIfInBounds_toArray, List.set_cons_zero, List.set_cons_succ]
  refine wpAnyH_take (i := 2) (oi := { dst := some 18, op := Op.slice 24 (Operand.tmp 6) none none none, type := 28, pos := "hmac.go:20", after := #[], guard := none }) (v := ?v2) rfl (by kernel_rfl) (by kernel_rfl) (by kernel_rfl) (fun _ _ _ h => h) (Or.inl ⟨by rfl, ?hy2⟩) hHeld ?_
  case hy2 => (intro w hSw; go_simp; rfl)
  simp only [Act.put, List.setIfInBounds_toArray, List.set_cons_zero, List.set_cons_succ]
  refine wpAnyH_take (i := 3) (oi := { dst := some 19, op := Op.convert 28 9 (Operand.tmp 18), type := 9, pos := "hmac.go:20", after := #[{ on := 2, ground := Ground.data }], guard := none }) (v := .string ⟨D.toArray⟩) rfl (by kernel_rfl) (by kernel_rfl) (by kernel_rfl) (fun _ _ _ h => h) (Or.inl ⟨by rfl, ?hy3⟩) hHeld ?_
  case hy3 => (exact fun w' hS => exec_string_of w' _ _ 28 9 5 (.tmp 18) rfl Tryd.underlying28 Tryd.underlying5 Tryd.underlying9 w7.heap.size 0 32 32 D rfl HD.out (bytes_of_list' hS.2.1))
  simp only [Act.put, List.setIfInBounds_toArray, List.set_cons_zero, List.set_cons_succ]
  refine wpAnyH_ready (rs := [1]) (by kernel_rfl) (by simp) ?_
  refine AllReadyH.cons (o := { dst := some 17, op := Op.call { callee := Callee.value (Operand.func 34), args := #[Operand.tmp 16, Operand.const (Value.int IntKind.u8 92)], argTypes := #[26, 5] }, type := 9, pos := "hmac.go:20", after := #[{ on := 0, ground := Ground.data }], guard := none }) rfl (fun Kc hcont => ?_) AllReadyH.nil
  go_simp
  refine (masked_any B 92 _ HLB.out).mono ?_
  rintro e w9 ⟨rfl, hb9⟩
  refine hcont.out _ _ ⟨hHeld.1.below hb9 hHeld.1.lt, hHeld.2.1.below hb9 hHeld.2.1.lt, hHeld.2.2.1.imp (fun cs hc => ⟨hc.1.below hb9 hc.1.lt, hc.2⟩), hHeld.2.2.2.trans (hb9.mono hHeld.2.2.2.size)⟩ (fun hHeld2 => ?_)
  clear hcont Kc
  clear hHeld hb9
  obtain ⟨N, hN⟩ : ∃ N : ByteArray, N = ⟨(maskL 92 B).toArray⟩ := ⟨_, rfl⟩
  have hNs : N.size = 64 := by rw [hN]; show (maskL 92 B).toArray.size = 64; rw [List.size_toArray, length_maskL, HLB.out]
  have hNl : N.data.toList = maskL 92 B := by rw [hN]
  rw [← hN]
  have HN := hid hNl
  have HNS := hid hNs
  clear hN hNl hNs
  obtain ⟨R, hR⟩ : ∃ R : ByteArray, R = ⟨D.toArray⟩ := ⟨_, rfl⟩
  have hRs : R.size = 32 := by rw [hR]; show D.toArray.size = 32; rw [List.size_toArray, HD.out]
  have hRl : R.data.toList = D := by rw [hR]
  rw [← hR]
  have HR := hid hRl
  have HRS := hid hRs
  clear hR hRl hRs
  obtain ⟨wa, hwa, hbela, hba, hsza⟩ := one_new w9 9 #[.string N, .string R]
  have HWA := hid hwa
  clear hwa hsza
  refine wpAnyH_ready (rs := [4]) (by kernel_rfl) (by simp) ?_
  refine AllReadyH.cons (o := { dst := some 20, op := Op.buildSlice 31 2 #[(0, Operand.tmp 17), (1, Operand.tmp 19)], type := 31, pos := "hmac.go:20", after := #[{ on := 1, ground := Ground.data }, { on := 3, ground := Ground.data }], guard := none }) rfl (fun Kc hcont => ?_) AllReadyH.nil
  go_simp
  rw [← HWA.out]
  clear HWA
  refine hcont.out _ _ ⟨hHeld2.1.below hbela hHeld2.1.lt, hHeld2.2.1.below hbela hHeld2.2.1.lt, hHeld2.2.2.1.imp (fun cs hc => ⟨hc.1.below hbela hc.1.lt, hc.2⟩), hHeld2.2.2.2.trans (hbela.mono hHeld2.2.2.2.size)⟩ (fun hHeld3 => ?_)
  clear hcont Kc hHeld2
  refine wpAnyH_ready (rs := [5]) (by kernel_rfl) (by simp) ?_
  refine AllReadyH.cons (o := { dst := some 21, op := Op.call { callee := Callee.value (Operand.func 12), args := #[Operand.tmp 20], argTypes := #[31] }, type := 24, pos := "hmac.go:20", after := #[{ on := 4, ground := Ground.data }, { on := 1, ground := Ground.chain }], guard := none }) rfl (fun Kc hcont => ?_) AllReadyH.nil
  go_simp
  refine (sum256_any 2 2 (some ⟨w9.heap.size, 0, none⟩) [N, R] wa (strs_two hba) (hK.below hHeld3.2.2.2 hK.lt) (by omega) (by simp [sumLen, HNS.out, HRS.out])).mono ?_
  rintro e wb ⟨rfl, hbb⟩
  refine hcont.out _ _ ⟨hHeld3.1.below hbb hHeld3.1.lt, hHeld3.2.1.below hbb hHeld3.2.1.lt, hHeld3.2.2.1.imp (fun cs hc => ⟨hc.1.below hbb hc.1.lt, hc.2⟩), hHeld3.2.2.2.trans (hbb.mono hHeld3.2.2.2.size)⟩ (fun hHeld4 => ?_)
  clear hcont Kc
  clear hHeld3 hbb hbela hba
  have hX0 : sha256 (flat [N, R]) = hmacL K.data.toList (flat ss) := by
    have e : flat [N, R] = maskL 92 B ++ D := by rw [show [N, R] = [N] ++ [R] from rfl, flat_append, flat_one, flat_one, HN.out, HR.out]
    rw [e, HDX.out, HB.out]; rfl
  rw [hX0]
  have hXl := length_hmacL K.data.toList (flat ss)
  obtain ⟨X, hX⟩ : ∃ X, X = hmacL K.data.toList (flat ss) := ⟨_, rfl⟩
  rw [← hX] at hXl ⊢
  have HX := hid hXl
  have HXE := hid hX
  clear hX0 hXl hX
  obtain ⟨cs, hcs, hcl⟩ := hHeld4.2.2.1
  refine wpAnyH_ready (rs := [6]) (by kernel_rfl) (by simp) ?_
  refine AllReadyH.cons (o := { dst := none, op := Op.store 24 (Operand.tmp 4) (Operand.tmp 21), type := 0, pos := "hmac.go:20", after := #[{ on := 5, ground := Ground.data }, { on := 5, ground := Ground.chain }, { on := 0, ground := Ground.phase }, { on := 1, ground := Ground.phase }, { on := 2, ground := Ground.phase }, { on := 3, ground := Ground.phase }, { on := 4, ground := Ground.phase }, { on := 5, ground := Ground.phase }], guard := none }) rfl (fun Kc hcont => ?_) AllReadyH.nil
  rw [if_pos (by rfl)]
  refine wp_store_row 24 (.tmp 4) (.tmp 21) rfl w.heap.size _ rfl rfl 24 cs hcs (size24 _ HX.out) (by rw [hcl]; simp [HX.out]) (oneCell_bytes32 _) ?_
  have hfin := hcs.row (X.map U8).toArray
  have hbfin : Below w.heap.size w (wb.setRow w.heap.size (X.map U8).toArray) := below_grown hHeld4.2.2.2 (grown_setRow (grown_refl wb _) (X.map U8).toArray) hHeld4.2.2.2.size (Nat.le_refl _)
  refine hcont.out _ _ ⟨hHeld4.1.farRow (by omega) _, hHeld4.2.1.farRow (by omega) _, ⟨_, hfin, by simp [HX.out]⟩, hbfin⟩ (fun hHeld5 => ?_)
  clear hcont Kc hHeld4 hHeld5 hcs hcl
  generalize wb.setRow w.heap.size (X.map U8).toArray = wf at hfin hbfin ⊢
  refine wpAnyH_done (by kernel_rfl) ?_ _
  go_wp2
  exact bodyPost_ret (results_cell_row rfl _ _ w.heap.size 24 _ (0, 0) _ rfl hfin Tryd.underlying24 rfl (size24 _ HX.out)) rfl ⟨by rw [HXE.out], hbfin⟩
end Go.Proofs.YtghjndcbnnbloaaDoor
