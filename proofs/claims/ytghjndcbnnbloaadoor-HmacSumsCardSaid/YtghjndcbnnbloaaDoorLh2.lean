/-
  The law HmacSums, walked.
-/
import Derived.Test.YtghjndcbnnbloaaDoorA2
import Derived.Test.YtghjndcbnnbloaaDoorPr
namespace Go.Proofs.YtghjndcbnnbloaaDoor
open Go.RowKit
def HPartRel (w : World) (n : Nat) (all parts i : Value) (wr : World) : Prop :=
  ∃ (j : Nat) (S : ByteArray) (L : List ByteArray), j ≤ n ∧ j ≤ 8 ∧ i = .int .i64 j ∧ all = .string S ∧ flat L = S.data.toList ∧ S.size ≤ 60 * j ∧ wr.ownsRow w.heap.size 9 1 parts j (L.map Value.string) ∧ Below w.heap.size w wr
set_option maxHeartbeats 1000000 in
set_option maxRecDepth 100000 in
theorem hmacSums_any (K0 : ByteArray) (A : Option Addr) (n c : Nat) (ss : List ByteArray) (w : World) (hk0 : K0.size ≤ maxLen) (hs : Strs w A n c ss) (hsz : ∀ s ∈ ss, s.size ≤ maxLen) (hK : KAt32 w) :
    Calls Tryd.prog 7 #[.string K0, .slice A n c] w fun e w' => e = .returned (.bool true) ∧ Below w.heap.size w w' := by
  obtain ⟨i9, hi9, hz0, hz1, hz2⟩ := info_parts info9
  obtain ⟨i5, hi5, hy0, hy1, hy2⟩ := info_parts info5
  clear hy0 hy1 hy2
  have hsl := hs.1
  go_enter Tryd.func7, Tryd.ntmps7
  go_wp2_with fail
  refine (awake2_any w hK).mono ?_
  rintro e w0 ⟨rfl, hb0⟩
  go_wp2_with fail
  refine (cut_any K0 150 w0 hk0 (by omega) (by omega)).mono ?_
  rintro e w0' ⟨key, rfl, hkey, hkq, rfl⟩
  have hkey2 : key.size ≤ 150 := by omega
  clear hkq hkey
  go_wp2
  go_loopw [5, 6, 7] (fun s p i wr => HPartRel w n s p i wr) (fun _ _ i _ => n - (intOf i).toNat)
  case atStart => exact ⟨0, ⟨#[]⟩, [], Nat.zero_le _, Nat.zero_le _, rfl, rfl, rfl, Nat.le_refl _, World.ownsRow_nil _ _ _ _, hb0⟩
  case round =>
    clear hb0
    obtain ⟨j, S, L, hj, hj10, rfl, rfl, hfl, hSs, hown, hb0⟩ := hrel
    by_cases hlt : j < n
    · have hd1 : decide ((j : Int) < n) = true := decide_eq_true (by omega)
      by_cases hlt2 : j < 8
      · have hd2 : decide ((j : Int) < 8) = true := decide_eq_true (by omega)
        have hjs : j < ss.length := by omega
        have hA : ∃ ad, A = some ad := by
          cases A with
          | none => have := (hs.2.1 rfl).1; omega
          | some ad => exact ⟨ad, rfl⟩
        obtain ⟨ad, rfl⟩ := hA
        obtain ⟨x, hx⟩ : ∃ x, x = ss[j] := ⟨_, rfl⟩
        have hcell : wr.cell? (ad.add j) = some (.string x) := (hs.below' hb0).2.2 ad rfl j _ (by rw [List.getElem?_map, List.getElem?_eq_getElem hjs, hx]; rfl)
        have hxs : x.size ≤ maxLen := hsz x (by rw [hx]; exact List.getElem_mem hjs)
        have HFL := hid hfl
        have HX := hid hx
        clear hfl hx
        go_wp2_with fail
        refine (cut_any x 60 wr hxs (by omega) (by omega)).mono ?_
        rintro e w1 ⟨t, rfl, ht, htq, rfl⟩
        have ht60 : t.size ≤ 60 := by omega
        clear htq hxs
        go_wp2_with (at_builtin; refine step_append rfl (.tmp 33) (.tmp 35) 31 rfl w.heap.size 9 i9 _ 16 Tryd.underlying31 hi9 hz0 hz1 hz2 rfl (by omega) _ j _ rfl (hown.alloc _) _ 0 1 1 [.string t] rfl rfl (new_one _ 9 _) (by simp [Value.oneCell']) (by omega) (by omega) (by have := hb0.size; simp; omega) ?_; intro g2 c2 w2 hown2 _ hb2)
        go_roundw
        case rel =>
          refine ⟨j + 1, _, L ++ [t], by omega, by omega, by go_num, rfl, ?_, ?_, ?_, (hb0.alloc hb0.size _).trans hb2⟩
          · rw [flat_append, flat_one, HFL.out, app_data']
          · rw [ByteArray.size_append]; omega
          · rw [List.map_append]; exact hown2
        case measure => simp [intOf]; omega
      · have hd2 : decide ((j : Int) < 8) = false := decide_eq_false (by omega)
        obtain ⟨wq, rfl⟩ : ∃ wq : World, wq = wr := ⟨_, rfl⟩
        obtain ⟨B, cB, rfl, hst⟩ := strs_of_own hown
        have hsum : sumLen L ≤ 480 := by
          have h1 := length_flat L
          rw [hfl, len_data] at h1
          unfold sumLen; omega
        have hS6 : S.size ≤ 480 := by omega
        obtain ⟨D, hD⟩ : ∃ D, D = hmacL key.data.toList S.data.toList := ⟨_, rfl⟩
        have HDX := hid hD
        have HD : Hid (D.length = 32) := hid (by rw [hD]; exact length_hmacL _ _)
        have hrD : ∀ W, Calls Tryd.prog 20 #[.string key, .string S] W fun e w' => e = .returned (.string ⟨D.toArray⟩) ∧ Below W.heap.size W w' := fun W => by
          rw [hD]
          exact refHmac_any key S W (by omega) (by omega)
        have HRD := hid hrD
        have HFL := hid hfl
        clear hD hfl hSs hown hrD
        go_wp2_with fail
        refine (hmac_any key B j cB L wq hst (by omega) (by omega) (by omega) (hK.below hb0 hK.lt)).mono ?_
        rintro e w1 ⟨rfl, hbel1⟩
        rw [HFL.out, ← HDX.out]
        have hb01 : Below w.heap.size w w1 := hb0.trans (hbel1.mono hb0.size)
        clear hst hbel1 hsum
        obtain ⟨w2, hw2, hbel2, hbk2, hsz2⟩ := one_new w1 9 #[.string S]
        have HW2 := hid hw2
        have hb02 : Below w.heap.size w w2 := hb01.trans (hbel2.mono hb01.size)
        clear hw2 hsz2
        go_wp2_with fail
        rw [← HW2.out]
        clear HW2
        refine (hmac_any key (some ⟨w1.heap.size, 0, none⟩) 1 1 [S] w2 (strs_one hbk2) (by omega) (by omega) (by simp [sumLen]; omega) (hK.below hb02 hK.lt)).mono ?_
        rintro e w3 ⟨rfl, hbel3⟩
        rw [flat_one, ← HDX.out]
        have hb03 : Below w.heap.size w w3 := hb02.trans (hbel3.mono hb02.size)
        clear hbel2 hbk2 hbel3 hb02 hb01
        have hsz3 := hb03.size
        go_wp2_with (first
          | (refine wpList_store_blk rfl 24 (.tmp 9) (.tmp 39) rfl w3.heap.size _ rfl rfl 24 _ ((Blk.new w3 24 _).alloc _) (size24 _ HD.out) (by simp [HD.out]) (oneCell_bytes32 _) ?_
             intro w4 h4 hg4
             have h4b := (blk_new2 w3 24 24 _ _).gro hg4 (by omega)
             have hb04 : Below w.heap.size w w4 := below_grown ((hb03.alloc hsz3 _).alloc (by simp; omega) _) hg4 (by simp; omega) hsz3
             clear hg4)
          | (refine wpList_store_blk rfl 24 (.tmp 10) (.tmp 43) rfl (w3.heap.size + 1) _ rfl rfl 24 _ h4b (size24 _ HD.out) (by simp [HD.out]) (oneCell_bytes32 _) ?_
             intro wF hB5 hg5
             have hA5 := h4.gro hg5 (by omega)
             have hb05 : Below w.heap.size w wF := below_grown hb04 hg5 hb04.size (by omega)
             clear hg5 h4 h4b hb04))
        dsimp only [Act.put]
        refine wp_region_held_drew (S := fun w' => Blk w' w3.heap.size 24 (D.map U8).toArray ∧ Blk w' (w3.heap.size + 1) 24 (D.map U8).toArray ∧ Below w.heap.size w w') (by kernel_rfl) ⟨hA5, hB5, hb05.drew⟩ (fun hHeld => ?_)
        clear hA5 hB5 hb05 hb03
        refine wpAnyH_take (i := 0) (oi := { dst := some 44, op := Op.load 24 (Operand.tmp 9), type := 24, pos := "law.go:31", after := #[], guard := none }) (v := .agg (D.map U8).toArray) rfl (by kernel_rfl) (by kernel_rfl) (by kernel_rfl) (fun _ _ _ h => h) (Or.inl ⟨by rfl, ?hy0⟩) hHeld ?_
        case hy0 => (exact fun w' hS => exec_load_blk w' _ _ 24 (.tmp 9) rfl w3.heap.size rfl 24 _ _ hS.1 Tryd.underlying24 rfl (size24 _ HD.out))
        simp only [Act.put, List.setIfInBounds_toArray, List.set_cons_zero, List.set_cons_succ]
        refine wpAnyH_take (i := 1) (oi := { dst := some 45, op := Op.load 24 (Operand.tmp 10), type := 24, pos := "law.go:31", after := #[], guard := none }) (v := .agg (D.map U8).toArray) rfl (by kernel_rfl) (by kernel_rfl) (by kernel_rfl) (fun _ _ _ h => h) (Or.inl ⟨by rfl, ?hy1⟩) hHeld ?_
        case hy1 => (exact fun w' hS => exec_load_blk w' _ _ 24 (.tmp 10) rfl (w3.heap.size + 1) rfl 24 _ _ hS.2.1 Tryd.underlying24 rfl (size24 _ HD.out))
        simp only [Act.put, List.setIfInBounds_toArray, List.set_cons_zero, List.set_cons_succ]
        refine wpAnyH_take (i := 2) (oi := { dst := some 46, op := Op.binOp BinOp.eql 24 (Operand.tmp 44) (Operand.tmp 45) 24, type := 4, pos := "law.go:31", after := #[{ on := 0, ground := Ground.data }, { on := 1, ground := Ground.data }], guard := none }) (v := .bool true) rfl (by kernel_rfl) (by kernel_rfl) (by kernel_rfl) (fun _ _ _ h => h) (Or.inl ⟨by rfl, ?hy2⟩) hHeld ?_
        case hy2 => (exact fun w' hS => exec_same_bytes w' _ _ 24 5 _ (.tmp 44) (.tmp 45) rfl 32 .u8 i5 D rfl rfl Tryd.underlying24 hi5 Tryd.underlying5 (by kernel_rfl) (by kernel_rfl) HD.out (by kernel_rfl))
        simp only [Act.put, List.setIfInBounds_toArray, List.set_cons_zero, List.set_cons_succ]
        refine wpAnyH_take (i := 3) (oi := { dst := some 47, op := Op.move (Operand.tmp 46), type := 4, pos := "law.go:31", after := #[{ on := 2, ground := Ground.data }], guard := none }) (v := ?v3) rfl (by kernel_rfl) (by kernel_rfl) (by kernel_rfl) (fun _ _ _ h => h) (Or.inl ⟨by rfl, ?hy3⟩) hHeld ?_
        case hy3 => (intro w hSw; go_simp; rfl)
        simp only [Act.put, List.setIfInBounds_toArray, List.set_cons_zero, List.set_cons_succ]
        refine wpAnyH_take (i := 4) (oi := { dst := some 48, op := Op.slice 24 (Operand.tmp 9) none none none, type := 28, pos := "law.go:31", after := #[{ on := 3, ground := Ground.guard }], guard := some (3, true) }) (v := ?v4) rfl (by kernel_rfl) (by kernel_rfl) (by kernel_rfl) (fun _ _ _ h => h) (Or.inl ⟨by rfl, ?hy4⟩) hHeld ?_
        case hy4 => (intro w hSw; go_simp; rfl)
        simp only [Act.put, List.setIfInBounds_toArray, List.set_cons_zero, List.set_cons_succ]
        refine wpAnyH_take (i := 5) (oi := { dst := some 49, op := Op.convert 28 9 (Operand.tmp 48), type := 9, pos := "law.go:31", after := #[{ on := 4, ground := Ground.data }, { on := 3, ground := Ground.guard }], guard := some (3, true) }) (v := .string ⟨D.toArray⟩) rfl (by kernel_rfl) (by kernel_rfl) (by kernel_rfl) (fun _ _ _ h => h) (Or.inl ⟨by rfl, ?hy5⟩) hHeld ?_
        case hy5 => (exact fun w' hS => exec_string_of w' _ _ 28 9 5 (.tmp 48) rfl Tryd.underlying28 Tryd.underlying5 Tryd.underlying9 w3.heap.size 0 32 32 D rfl HD.out (bytes_of_list' hS.1))
        simp only [Act.put, List.setIfInBounds_toArray, List.set_cons_zero, List.set_cons_succ]
        refine wpAnyH_take (i := 6) (oi := { dst := some 50, op := Op.move (Operand.tmp 0), type := 9, pos := "law.go:31", after := #[{ on := 3, ground := Ground.guard }], guard := some (3, true) }) (v := ?v6) rfl (by kernel_rfl) (by kernel_rfl) (by kernel_rfl) (fun _ _ _ h => h) (Or.inl ⟨by rfl, ?hy6⟩) hHeld ?_
        case hy6 => (intro w hSw; go_simp; rfl)
        simp only [Act.put, List.setIfInBounds_toArray, List.set_cons_zero, List.set_cons_succ]
        refine wpAnyH_take (i := 7) (oi := { dst := some 51, op := Op.move (Operand.tmp 5), type := 9, pos := "law.go:31", after := #[{ on := 3, ground := Ground.guard }], guard := some (3, true) }) (v := ?v7) rfl (by kernel_rfl) (by kernel_rfl) (by kernel_rfl) (fun _ _ _ h => h) (Or.inl ⟨by rfl, ?hy7⟩) hHeld ?_
        case hy7 => (intro w hSw; go_simp; rfl)
        simp only [Act.put, List.setIfInBounds_toArray, List.set_cons_zero, List.set_cons_succ]
        refine wpAnyH_ready (rs := [8]) (by kernel_rfl) (by simp) ?_
        refine AllReadyH.cons (o := { dst := some 52, op := Op.call { callee := Callee.value (Operand.func 20), args := #[Operand.tmp 50, Operand.tmp 51], argTypes := #[9, 9] }, type := 9, pos := "law.go:31", after := #[{ on := 6, ground := Ground.data }, { on := 7, ground := Ground.data }, { on := 3, ground := Ground.chain }, { on := 3, ground := Ground.guard }], guard := some (3, true) }) rfl (fun Kc hcont => ?_) AllReadyH.nil
        go_simp
        refine (HRD.out _).mono ?_
        rintro e wZ ⟨rfl, hbZ⟩
        refine hcont.out _ _ ⟨hHeld.1.below hbZ hHeld.1.lt, hHeld.2.1.below hbZ hHeld.2.1.lt, hHeld.2.2.trans (hbZ.mono hHeld.2.2.size)⟩ (fun hHeld2 => ?_)
        clear hcont Kc
        refine wpAnyH_take (i := 9) (oi := { dst := some 53, op := Op.binOp BinOp.eql 9 (Operand.tmp 49) (Operand.tmp 52) 9, type := 4, pos := "law.go:31", after := #[{ on := 5, ground := Ground.data }, { on := 8, ground := Ground.data }, { on := 3, ground := Ground.guard }], guard := some (3, true) }) (v := ?v9) rfl (by kernel_rfl) (by kernel_rfl) (by kernel_rfl) (fun _ _ _ h => h) (Or.inl ⟨by rfl, ?hy9⟩) hHeld2 ?_
        case hy9 => (intro w hSw; go_simp; rfl)
        simp only [Act.put, List.setIfInBounds_toArray, List.set_cons_zero, List.set_cons_succ]
        refine wpAnyH_take (i := 10) (oi := { dst := some 54, op := Op.pick (Operand.tmp 47) (Operand.tmp 53) (Operand.const (Value.bool false)), type := 4, pos := "law.go:31", after := #[{ on := 3, ground := Ground.data }, { on := 9, ground := Ground.data }], guard := none }) (v := ?v10) rfl (by kernel_rfl) (by kernel_rfl) (by kernel_rfl) (fun _ _ _ h => h) (Or.inl ⟨by rfl, ?hy10⟩) hHeld2 ?_
        case hy10 => (intro w hSw; go_simp; rfl)
        simp only [Act.put, List.setIfInBounds_toArray, List.set_cons_zero, List.set_cons_succ]
        refine wpAnyH_take (i := 11) (oi := { dst := some 4, op := Op.assign (Operand.tmp 54), type := 4, pos := "law.go:31", after := #[{ on := 10, ground := Ground.data }, { on := 8, ground := Ground.chain }, { on := 0, ground := Ground.phase }, { on := 1, ground := Ground.phase }, { on := 2, ground := Ground.phase }, { on := 3, ground := Ground.phase }, { on := 4, ground := Ground.phase }, { on := 5, ground := Ground.phase }, { on := 6, ground := Ground.phase }, { on := 7, ground := Ground.phase }, { on := 8, ground := Ground.phase }, { on := 9, ground := Ground.phase }, { on := 10, ground := Ground.phase }], guard := none }) (v := ?v11) rfl (by kernel_rfl) (by kernel_rfl) (by kernel_rfl) (fun _ _ _ h => h) (Or.inl ⟨by rfl, ?hy11⟩) hHeld2 ?_
        case hy11 => (intro w hSw; go_simp; rfl)
        simp only [Act.put, List.setIfInBounds_toArray, List.set_cons_zero, List.set_cons_succ]
        refine wpAnyH_done (by kernel_rfl) ?_ _
        have hbFF : Below w.heap.size w _ := hHeld2.2.2
        clear hHeld hHeld2 hbZ
        go_wp2
        go_ret
        exact ⟨rfl, hbFF⟩
    · have hd1 : decide ((j : Int) < n) = false := decide_eq_false (by omega)
      obtain ⟨wq, rfl⟩ : ∃ wq : World, wq = wr := ⟨_, rfl⟩
      obtain ⟨B, cB, rfl, hst⟩ := strs_of_own hown
      have hsum : sumLen L ≤ 480 := by
        have h1 := length_flat L
        rw [hfl, len_data] at h1
        unfold sumLen; omega
      have hS6 : S.size ≤ 480 := by omega
      obtain ⟨D, hD⟩ : ∃ D, D = hmacL key.data.toList S.data.toList := ⟨_, rfl⟩
      have HDX := hid hD
      have HD : Hid (D.length = 32) := hid (by rw [hD]; exact length_hmacL _ _)
      have hrD : ∀ W, Calls Tryd.prog 20 #[.string key, .string S] W fun e w' => e = .returned (.string ⟨D.toArray⟩) ∧ Below W.heap.size W w' := fun W => by
        rw [hD]
        exact refHmac_any key S W (by omega) (by omega)
      have HRD := hid hrD
      have HFL := hid hfl
      clear hD hfl hSs hown hrD
      go_wp2_with fail
      refine (hmac_any key B j cB L wq hst (by omega) (by omega) (by omega) (hK.below hb0 hK.lt)).mono ?_
      rintro e w1 ⟨rfl, hbel1⟩
      rw [HFL.out, ← HDX.out]
      have hb01 : Below w.heap.size w w1 := hb0.trans (hbel1.mono hb0.size)
      clear hst hbel1 hsum
      obtain ⟨w2, hw2, hbel2, hbk2, hsz2⟩ := one_new w1 9 #[.string S]
      have HW2 := hid hw2
      have hb02 : Below w.heap.size w w2 := hb01.trans (hbel2.mono hb01.size)
      clear hw2 hsz2
      go_wp2_with fail
      rw [← HW2.out]
      clear HW2
      refine (hmac_any key (some ⟨w1.heap.size, 0, none⟩) 1 1 [S] w2 (strs_one hbk2) (by omega) (by omega) (by simp [sumLen]; omega) (hK.below hb02 hK.lt)).mono ?_
      rintro e w3 ⟨rfl, hbel3⟩
      rw [flat_one, ← HDX.out]
      have hb03 : Below w.heap.size w w3 := hb02.trans (hbel3.mono hb02.size)
      clear hbel2 hbk2 hbel3 hb02 hb01
      have hsz3 := hb03.size
      go_wp2_with (first
        | (refine wpList_store_blk rfl 24 (.tmp 9) (.tmp 39) rfl w3.heap.size _ rfl rfl 24 _ ((Blk.new w3 24 _).alloc _) (size24 _ HD.out) (by simp [HD.out]) (oneCell_bytes32 _) ?_
           intro w4 h4 hg4
           have h4b := (blk_new2 w3 24 24 _ _).gro hg4 (by omega)
           have hb04 : Below w.heap.size w w4 := below_grown ((hb03.alloc hsz3 _).alloc (by simp; omega) _) hg4 (by simp; omega) hsz3
           clear hg4)
        | (refine wpList_store_blk rfl 24 (.tmp 10) (.tmp 43) rfl (w3.heap.size + 1) _ rfl rfl 24 _ h4b (size24 _ HD.out) (by simp [HD.out]) (oneCell_bytes32 _) ?_
           intro wF hB5 hg5
           have hA5 := h4.gro hg5 (by omega)
           have hb05 : Below w.heap.size w wF := below_grown hb04 hg5 hb04.size (by omega)
           clear hg5 h4 h4b hb04))
      dsimp only [Act.put]
      refine wp_region_held_drew (S := fun w' => Blk w' w3.heap.size 24 (D.map U8).toArray ∧ Blk w' (w3.heap.size + 1) 24 (D.map U8).toArray ∧ Below w.heap.size w w') (by kernel_rfl) ⟨hA5, hB5, hb05.drew⟩ (fun hHeld => ?_)
      clear hA5 hB5 hb05 hb03
      refine wpAnyH_take (i := 0) (oi := { dst := some 44, op := Op.load 24 (Operand.tmp 9), type := 24, pos := "law.go:31", after := #[], guard := none }) (v := .agg (D.map U8).toArray) rfl (by kernel_rfl) (by kernel_rfl) (by kernel_rfl) (fun _ _ _ h => h) (Or.inl ⟨by rfl, ?hz0⟩) hHeld ?_
      case hz0 => (exact fun w' hS => exec_load_blk w' _ _ 24 (.tmp 9) rfl w3.heap.size rfl 24 _ _ hS.1 Tryd.underlying24 rfl (size24 _ HD.out))
      simp only [Act.put, List.setIfInBounds_toArray, List.set_cons_zero, List.set_cons_succ]
      refine wpAnyH_take (i := 1) (oi := { dst := some 45, op := Op.load 24 (Operand.tmp 10), type := 24, pos := "law.go:31", after := #[], guard := none }) (v := .agg (D.map U8).toArray) rfl (by kernel_rfl) (by kernel_rfl) (by kernel_rfl) (fun _ _ _ h => h) (Or.inl ⟨by rfl, ?hz1⟩) hHeld ?_
      case hz1 => (exact fun w' hS => exec_load_blk w' _ _ 24 (.tmp 10) rfl (w3.heap.size + 1) rfl 24 _ _ hS.2.1 Tryd.underlying24 rfl (size24 _ HD.out))
      simp only [Act.put, List.setIfInBounds_toArray, List.set_cons_zero, List.set_cons_succ]
      refine wpAnyH_take (i := 2) (oi := { dst := some 46, op := Op.binOp BinOp.eql 24 (Operand.tmp 44) (Operand.tmp 45) 24, type := 4, pos := "law.go:31", after := #[{ on := 0, ground := Ground.data }, { on := 1, ground := Ground.data }], guard := none }) (v := .bool true) rfl (by kernel_rfl) (by kernel_rfl) (by kernel_rfl) (fun _ _ _ h => h) (Or.inl ⟨by rfl, ?hz2⟩) hHeld ?_
      case hz2 => (exact fun w' hS => exec_same_bytes w' _ _ 24 5 _ (.tmp 44) (.tmp 45) rfl 32 .u8 i5 D rfl rfl Tryd.underlying24 hi5 Tryd.underlying5 (by kernel_rfl) (by kernel_rfl) HD.out (by kernel_rfl))
      simp only [Act.put, List.setIfInBounds_toArray, List.set_cons_zero, List.set_cons_succ]
      refine wpAnyH_take (i := 3) (oi := { dst := some 47, op := Op.move (Operand.tmp 46), type := 4, pos := "law.go:31", after := #[{ on := 2, ground := Ground.data }], guard := none }) (v := ?z3) rfl (by kernel_rfl) (by kernel_rfl) (by kernel_rfl) (fun _ _ _ h => h) (Or.inl ⟨by rfl, ?hz3⟩) hHeld ?_
      case hz3 => (intro w hSw; go_simp; rfl)
      simp only [Act.put, List.setIfInBounds_toArray, List.set_cons_zero, List.set_cons_succ]
      refine wpAnyH_take (i := 4) (oi := { dst := some 48, op := Op.slice 24 (Operand.tmp 9) none none none, type := 28, pos := "law.go:31", after := #[{ on := 3, ground := Ground.guard }], guard := some (3, true) }) (v := ?z4) rfl (by kernel_rfl) (by kernel_rfl) (by kernel_rfl) (fun _ _ _ h => h) (Or.inl ⟨by rfl, ?hz4⟩) hHeld ?_
      case hz4 => (intro w hSw; go_simp; rfl)
      simp only [Act.put, List.setIfInBounds_toArray, List.set_cons_zero, List.set_cons_succ]
      refine wpAnyH_take (i := 5) (oi := { dst := some 49, op := Op.convert 28 9 (Operand.tmp 48), type := 9, pos := "law.go:31", after := #[{ on := 4, ground := Ground.data }, { on := 3, ground := Ground.guard }], guard := some (3, true) }) (v := .string ⟨D.toArray⟩) rfl (by kernel_rfl) (by kernel_rfl) (by kernel_rfl) (fun _ _ _ h => h) (Or.inl ⟨by rfl, ?hz5⟩) hHeld ?_
      case hz5 => (exact fun w' hS => exec_string_of w' _ _ 28 9 5 (.tmp 48) rfl Tryd.underlying28 Tryd.underlying5 Tryd.underlying9 w3.heap.size 0 32 32 D rfl HD.out (bytes_of_list' hS.1))
      simp only [Act.put, List.setIfInBounds_toArray, List.set_cons_zero, List.set_cons_succ]
      refine wpAnyH_take (i := 6) (oi := { dst := some 50, op := Op.move (Operand.tmp 0), type := 9, pos := "law.go:31", after := #[{ on := 3, ground := Ground.guard }], guard := some (3, true) }) (v := ?z6) rfl (by kernel_rfl) (by kernel_rfl) (by kernel_rfl) (fun _ _ _ h => h) (Or.inl ⟨by rfl, ?hz6⟩) hHeld ?_
      case hz6 => (intro w hSw; go_simp; rfl)
      simp only [Act.put, List.setIfInBounds_toArray, List.set_cons_zero, List.set_cons_succ]
      refine wpAnyH_take (i := 7) (oi := { dst := some 51, op := Op.move (Operand.tmp 5), type := 9, pos := "law.go:31", after := #[{ on := 3, ground := Ground.guard }], guard := some (3, true) }) (v := ?z7) rfl (by kernel_rfl) (by kernel_rfl) (by kernel_rfl) (fun _ _ _ h => h) (Or.inl ⟨by rfl, ?hz7⟩) hHeld ?_
      case hz7 => (intro w hSw; go_simp; rfl)
      simp only [Act.put, List.setIfInBounds_toArray, List.set_cons_zero, List.set_cons_succ]
      refine wpAnyH_ready (rs := [8]) (by kernel_rfl) (by simp) ?_
      refine AllReadyH.cons (o := { dst := some 52, op := Op.call { callee := Callee.value (Operand.func 20), args := #[Operand.tmp 50, Operand.tmp 51], argTypes := #[9, 9] }, type := 9, pos := "law.go:31", after := #[{ on := 6, ground := Ground.data }, { on := 7, ground := Ground.data }, { on := 3, ground := Ground.chain }, { on := 3, ground := Ground.guard }], guard := some (3, true) }) rfl (fun Kc hcont => ?_) AllReadyH.nil
      go_simp
      refine (HRD.out _).mono ?_
      rintro e wZ ⟨rfl, hbZ⟩
      refine hcont.out _ _ ⟨hHeld.1.below hbZ hHeld.1.lt, hHeld.2.1.below hbZ hHeld.2.1.lt, hHeld.2.2.trans (hbZ.mono hHeld.2.2.size)⟩ (fun hHeld2 => ?_)
      clear hcont Kc
      refine wpAnyH_take (i := 9) (oi := { dst := some 53, op := Op.binOp BinOp.eql 9 (Operand.tmp 49) (Operand.tmp 52) 9, type := 4, pos := "law.go:31", after := #[{ on := 5, ground := Ground.data }, { on := 8, ground := Ground.data }, { on := 3, ground := Ground.guard }], guard := some (3, true) }) (v := ?z9) rfl (by kernel_rfl) (by kernel_rfl) (by kernel_rfl) (fun _ _ _ h => h) (Or.inl ⟨by rfl, ?hz9⟩) hHeld2 ?_
      case hz9 => (intro w hSw; go_simp; rfl)
      simp only [Act.put, List.setIfInBounds_toArray, List.set_cons_zero, List.set_cons_succ]
      refine wpAnyH_take (i := 10) (oi := { dst := some 54, op := Op.pick (Operand.tmp 47) (Operand.tmp 53) (Operand.const (Value.bool false)), type := 4, pos := "law.go:31", after := #[{ on := 3, ground := Ground.data }, { on := 9, ground := Ground.data }], guard := none }) (v := ?z10) rfl (by kernel_rfl) (by kernel_rfl) (by kernel_rfl) (fun _ _ _ h => h) (Or.inl ⟨by rfl, ?hz10⟩) hHeld2 ?_
      case hz10 => (intro w hSw; go_simp; rfl)
      simp only [Act.put, List.setIfInBounds_toArray, List.set_cons_zero, List.set_cons_succ]
      refine wpAnyH_take (i := 11) (oi := { dst := some 4, op := Op.assign (Operand.tmp 54), type := 4, pos := "law.go:31", after := #[{ on := 10, ground := Ground.data }, { on := 8, ground := Ground.chain }, { on := 0, ground := Ground.phase }, { on := 1, ground := Ground.phase }, { on := 2, ground := Ground.phase }, { on := 3, ground := Ground.phase }, { on := 4, ground := Ground.phase }, { on := 5, ground := Ground.phase }, { on := 6, ground := Ground.phase }, { on := 7, ground := Ground.phase }, { on := 8, ground := Ground.phase }, { on := 9, ground := Ground.phase }, { on := 10, ground := Ground.phase }], guard := none }) (v := ?z11) rfl (by kernel_rfl) (by kernel_rfl) (by kernel_rfl) (fun _ _ _ h => h) (Or.inl ⟨by rfl, ?hz11⟩) hHeld2 ?_
      case hz11 => (intro w hSw; go_simp; rfl)
      simp only [Act.put, List.setIfInBounds_toArray, List.set_cons_zero, List.set_cons_succ]
      refine wpAnyH_done (by kernel_rfl) ?_ _
      have hbFF : Below w.heap.size w _ := hHeld2.2.2
      clear hHeld hHeld2 hbZ
      go_wp2
      go_ret
      exact ⟨rfl, hbFF⟩
end Go.Proofs.YtghjndcbnnbloaaDoor
