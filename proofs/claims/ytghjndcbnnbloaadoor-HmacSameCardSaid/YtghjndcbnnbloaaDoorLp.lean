/-
  The law ShaParts, walked.
-/
import Derived.Test.YtghjndcbnnbloaaDoorLs
namespace Go.Proofs.YtghjndcbnnbloaaDoor
open Go.RowKit
section
variable {P : Program}
theorem exec_load_blk (w : World) (o : Oper) (a : Act) (ty : TypeId) (x : Operand) (ho : o.op = .load ty x) (g : Nat) (hx : a.eval x = .pointer (some ⟨g, 0, none⟩)) (t : TypeId) (cs : Array Value) (d : TypeDesc) (hg : Blk w g t cs)
    (hu : P.underlying ty = some d) (hd : (match d with | .struct _ | .array _ _ => true | _ => false) = true) (hi : (P.info? ty).map (·.size) = some cs.size) : (execOp a.eval o).run P w = .ok (.value (.agg cs)) w := by
  unfold execOp
  simp only [ho, hx, Instr.loadAt, Instr.sureAddr, Sem.run_bind, Sem.run_pure, Result.andThen_ok, run_loadVar_row w g t ty cs (0, 0) d hg hu hd hi]
theorem run_items_same (w : World) (d : Nat) (e : TypeId) (k : IntKind) (he : P.underlying e = some (.int k)) (hp : P.plainKey e = true) (L : List UInt8) : ∀ (is : List Nat), (∀ i ∈ is, i < L.length) → (Op.eqItems (d + 1) e 1 (L.map U8).toArray (L.map U8).toArray is).run P w = .ok true w
  | [], _ => by simp [Op.eqItems]
  | i :: is, h => by
    have hi : i < L.length := h i (by simp)
    have hx : ((L.map U8).toArray)[i * 1]? = some (U8 L[i]) := by simp [hi]
    have ih := run_items_same w d e k he hp L is (fun j hj => h j (by simp [hj]))
    simp only [Op.eqItems, Sem.run_bind, run_part_plain w hp hx, Result.andThen_ok, run_equalIn_int (P := P) w d e .u8 k _ _ he, beq_self_eq_true, Bool.not_true, Bool.false_eq_true, if_false, ih]
theorem exec_same_bytes (w : World) (o : Oper) (a : Act) (t e r : TypeId) (x y : Operand) (ho : o.op = .binOp .eql t x y r) (n : Nat) (k : IntKind) (i : TypeInfo) (L : List UInt8) (hx : a.eval x = .agg (L.map U8).toArray) (hy : a.eval y = .agg (L.map U8).toArray)
    (hu : P.underlying t = some (.array n e)) (hi : P.info? e = some i) (he : P.underlying e = some (.int k)) (hp : P.plainKey e = true) (hc : P.cellsOf e = 1) (hL : L.length = n) (hm : P.eqGuardType P.depth t = false) : (execOp a.eval o).run P w = .ok (.value (.bool true)) w := by
  have h1 : (Op.equal t (.agg (L.map U8).toArray) (.agg (L.map U8).toArray)).run P w = .ok true w := by
    show (Op.equalIn (9998 + 1 + 1) t _ _).run P w = _
    rw [run_equalIn_array w (9998 + 1) _ _ hu hi, hc]
    exact run_items_same w 9998 e k he hp L _ (fun j hj => by rw [hL]; exact List.mem_range.1 hj)
  unfold execOp
  simp only [ho, hx, hy, Sem.run_bind, run_eqGuard_agg w .eql t x y _ _ hm, Result.andThen_ok, binOp, h1, Sem.run_pure]
end

theorem new_two (w : World) (t : TypeId) (x y : Value) : ∀ j u, ([x, y] : List Value)[j]? = some u → (w.alloc (.cells #[x, y] t)).cell? ⟨w.heap.size, 0 + j, none⟩ = some u := by
  intro j u hu
  match j, hu with
  | 0, hu => rw [(Blk.new w t #[x, y]).cell]; simpa using hu
  | 1, hu => rw [(Blk.new w t #[x, y]).cell]; simpa using hu
  | j + 2, hu => simp at hu
theorem strs_of_own {w : World} {base n : Nat} {v : Value} {ss : List ByteArray} (h : w.ownsRow base 9 1 v n (ss.map Value.string)) : ∃ A c, v = .slice A n c ∧ Strs w A n c ss := by
  have hl : ss.length = n := by have := h.1; simpa using this
  rcases h.2 with ⟨rfl, rfl⟩ | ⟨g, cap, cur, rfl, _⟩
  · exact ⟨none, 0, rfl, hl, (fun _ => ⟨rfl, rfl⟩), (fun ad e => by cases e)⟩
  · exact ⟨some ⟨g, 0, none⟩, cap, rfl, Strs.of_own h⟩
def PartRel (w : World) (n : Nat) (all parts i : Value) (wr : World) : Prop :=
  ∃ (j : Nat) (S : ByteArray) (L : List ByteArray), j ≤ n ∧ j ≤ 10 ∧ i = .int .i64 j ∧ all = .string S ∧ flat L = S.data.toList ∧ S.size ≤ 60 * j ∧ wr.ownsRow w.heap.size 9 1 parts (2 * j) (L.map Value.string) ∧ Below w.heap.size w wr
set_option maxHeartbeats 1000000 in
set_option maxRecDepth 100000 in
theorem shaParts_any (A : Option Addr) (n c : Nat) (ss : List ByteArray) (w : World) (hs : Strs w A n c ss) (hsz : ∀ s ∈ ss, s.size ≤ maxLen) (hK : KAt32 w) (hK2 : KAt64 w) :
    Calls Tryd.prog 4 #[.slice A n c] w fun e w' => e = .returned (.bool true) ∧ Below w.heap.size w w' := by
  obtain ⟨i9, hi9, hz0, hz1, hz2⟩ := info_parts info9
  obtain ⟨i5, hi5, hy0, hy1, hy2⟩ := info_parts info5
  clear hy0 hy1 hy2
  have hsl := hs.1
  go_enter Tryd.func4, Tryd.ntmps4
  go_wp2_with fail
  refine (awake_any w hK hK2).mono ?_
  rintro e w0 ⟨rfl, hb0⟩
  go_wp2
  go_loopw [3, 4, 5] (fun s p i wr => PartRel w n s p i wr) (fun _ _ i _ => n - (intOf i).toNat)
  case atStart => exact ⟨0, ⟨#[]⟩, [], Nat.zero_le _, Nat.zero_le _, rfl, rfl, rfl, Nat.le_refl _, World.ownsRow_nil _ _ _ _, hb0⟩
  case round =>
    clear hb0
    obtain ⟨j, S, L, hj, hj10, rfl, rfl, hfl, hSs, hown, hb0⟩ := hrel
    by_cases hlt : j < n
    · have hd1 : decide ((j : Int) < n) = true := decide_eq_true (by omega)
      by_cases hlt2 : j < 10
      · have hd2 : decide ((j : Int) < 10) = true := decide_eq_true (by omega)
        have hjs : j < ss.length := by omega
        have hA : ∃ ad, A = some ad := by
          cases A with
          | none => have := (hs.2.1 rfl).1; omega
          | some ad => exact ⟨ad, rfl⟩
        obtain ⟨ad, rfl⟩ := hA
        obtain ⟨x, hx⟩ : ∃ x, x = ss[j] := ⟨_, rfl⟩
        have hcell : wr.cell? (ad.add j) = some (.string x) := (hs.below' hb0).2.2 ad rfl j _ (by rw [List.getElem?_map, List.getElem?_eq_getElem hjs, hx]; rfl)
        have hxs : x.size ≤ maxLen := hsz x (by rw [hx]; exact List.getElem_mem hjs)
        have HFL := hid hfl
        have HX := hid hx
        clear hfl hx
        go_wp2_with fail
        refine (cut_any x 60 wr hxs (by omega) (by omega)).mono ?_
        rintro e w1 ⟨t, rfl, ht, htq, rfl⟩
        have ht60 : t.size ≤ 60 := by omega
        clear htq hxs
        go_wp2_with (at_builtin; refine step_append rfl (.tmp 31) (.tmp 33) 31 rfl w.heap.size 9 i9 _ 16 Tryd.underlying31 hi9 hz0 hz1 hz2 rfl (by omega) _ (2 * j) _ rfl (hown.alloc _) _ 0 2 2 [.string t, .string ⟨#[]⟩] rfl rfl (new_two _ 9 _ _) (by simp [Value.oneCell']) (by omega) (by omega) (by have := hb0.size; simp; omega) ?_; intro g2 c2 w2 hown2 _ hb2)
        go_roundw
        case rel =>
          refine ⟨j + 1, _, L ++ [t, ⟨#[]⟩], by omega, by omega, by go_num, rfl, ?_, ?_, ?_, (hb0.alloc hb0.size _).trans hb2⟩
          · rw [flat_append, HFL.out, ByteArray.data_append, Array.toList_append]
            simp [flat]
          · rw [ByteArray.size_append]; omega
          · rw [List.map_append]; exact hown2
        case measure => simp [intOf]; omega
      · have hd2 : decide ((j : Int) < 10) = false := decide_eq_false (by omega)
        obtain ⟨wq, rfl⟩ : ∃ wq : World, wq = wr := ⟨_, rfl⟩
        obtain ⟨B, cB, rfl, hst⟩ := strs_of_own hown
        have hsum : sumLen L ≤ 600 := by
          have h1 := length_flat L
          rw [hfl, len_data] at h1
          unfold sumLen; omega
        have hS6 : S.size ≤ 600 := by omega
        obtain ⟨D, hD⟩ : ∃ D, D = sha256 S.data.toList := ⟨_, rfl⟩
        obtain ⟨E, hE⟩ : ∃ E, E = sha512 S.data.toList := ⟨_, rfl⟩
        have HDX := hid hD
        have HEX := hid hE
        have HD : Hid (D.length = 32) := hid (by rw [hD]; exact length_sha256 _)
        have HE : Hid (E.length = 64) := hid (by rw [hE]; exact length_sha512 _)
        have hrD : ∀ W, Calls Tryd.prog 14 #[.string S] W fun e w' => e = .returned (.string ⟨D.toArray⟩) ∧ Below W.heap.size W w' := fun W => by
          rw [hD]
          exact refSum256_any S W (by omega)
        have HRD := hid hrD
        have HFL := hid hfl
        clear hD hE hfl hSs hown hrD
        go_wp2_with fail
        refine (sum256_any (2 * j) cB B L wq hst (hK.below hb0 hK.lt) (by omega) (by omega)).mono ?_
        rintro e w1 ⟨rfl, hbel1⟩
        rw [HFL.out, ← HDX.out]
        have hb01 : Below w.heap.size w w1 := hb0.trans (hbel1.mono hb0.size)
        have hst1 := hst.below' hbel1
        go_wp2_with fail
        refine (sum512_any (2 * j) cB B L w1 hst1 (hK2.below hb01 hK2.lt) (by omega) (by omega)).mono ?_
        rintro e w2 ⟨rfl, hbel2⟩
        rw [HFL.out, ← HEX.out]
        have hb02 : Below w.heap.size w w2 := hb01.trans (hbel2.mono hb01.size)
        clear hst1 hst hbel1 hbel2 hb01 hsum
        have hszw2 := hb02.size
        go_wp2_with (first
          | (refine wpList_store_blk rfl 24 (.tmp 7) (.tmp 36) rfl w2.heap.size _ rfl rfl 24 _ ((Blk.new w2 24 _).alloc _) (size24 _ HD.out) (by simp [HD.out]) (oneCell_bytes32 _) ?_
             intro w3 h51P hg5P
             have h52P := (blk_new2 w2 24 26 _ _).gro hg5P (by omega)
             have hbsP : Below w.heap.size w w3 := below_grown ((hb02.alloc hszw2 _).alloc (by simp; omega) _) hg5P (by simp; omega) hszw2
             have hboP : Below w2.heap.size w2 w3 := below_grown (((Below.refl _ _).alloc (Nat.le_refl _) _).alloc (by simp) _) hg5P (by simp; omega) (Nat.le_refl _)
             clear hg5P)
          | (refine wpList_store_blk rfl 26 (.tmp 8) (.tmp 38) rfl (w2.heap.size + 1) _ rfl rfl 26 _ h52P (size26 _ HE.out) (by simp [HE.out]) (oneCell_bytes64 _) ?_
             intro w4 hBP hg6P
             have hAP := h51P.gro hg6P (by omega)
             have hbtP : Below w.heap.size w w4 := below_grown hbsP hg6P hbsP.size (by omega)
             have hbpP : Below w2.heap.size w2 w4 := below_grown hboP hg6P hboP.size (by omega)
             clear hg6P h51P h52P hbsP hboP))
        obtain ⟨w5, hww5, hbelw5, hbkw5, hszw5⟩ := one_new w4 9 #[.string S]
        have HWw5 := hid hww5
        clear hww5 hszw5
        go_wp2_with fail
        rw [← HWw5.out]
        clear HWw5
        have hb05 : Below w.heap.size w w5 := hbtP.trans (hbelw5.mono hbtP.size)
        refine (sum256_any 1 1 (some ⟨w4.heap.size, 0, none⟩) [S] w5 (strs_one hbkw5) (hK.below hb05 hK.lt) (by omega) (by simp [sumLen]; omega)).mono ?_
        rintro e w6 ⟨rfl, hbel6⟩
        rw [flat_one, ← HDX.out]
        have hb06 : Below w.heap.size w w6 := hb05.trans (hbel6.mono hb05.size)
        have hbp6 : Below w4.heap.size w4 w6 := hbelw5.trans (hbel6.mono hbelw5.size)
        clear hbel6 hbkw5 hbelw5 hb05
        obtain ⟨w7, hww7, hbelw7, hbkw7, hszw7⟩ := one_new w6 9 #[.string S]
        have HWw7 := hid hww7
        clear hww7 hszw7
        go_wp2_with fail
        rw [← HWw7.out]
        clear HWw7
        have hb07 : Below w.heap.size w w7 := hb06.trans (hbelw7.mono hb06.size)
        refine (sum512_any 1 1 (some ⟨w6.heap.size, 0, none⟩) [S] w7 (strs_one hbkw7) (hK2.below hb07 hK2.lt) (by omega) (by simp [sumLen]; omega)).mono ?_
        rintro e w8 ⟨rfl, hbel8⟩
        rw [flat_one, ← HEX.out]
        have hb08 : Below w.heap.size w w8 := hb07.trans (hbel8.mono hb07.size)
        have hbp8 : Below w4.heap.size w4 w8 := hbp6.trans ((hbelw7.mono hbp6.size).trans (hbel8.mono (Nat.le_trans hbp6.size hbelw7.size)))
        clear hbel8 hbkw7 hbelw7 hb07 hbp6 hb06
        have hszw8 := hb08.size
        go_wp2_with (first
          | (refine wpList_store_blk rfl 24 (.tmp 9) (.tmp 41) rfl w8.heap.size _ rfl rfl 24 _ ((Blk.new w8 24 _).alloc _) (size24 _ HD.out) (by simp [HD.out]) (oneCell_bytes32 _) ?_
             intro w9 h51R hg5R
             have h52R := (blk_new2 w8 24 26 _ _).gro hg5R (by omega)
             have hbsR : Below w.heap.size w w9 := below_grown ((hb08.alloc hszw8 _).alloc (by simp; omega) _) hg5R (by simp; omega) hszw8
             have hboR : Below w8.heap.size w8 w9 := below_grown (((Below.refl _ _).alloc (Nat.le_refl _) _).alloc (by simp) _) hg5R (by simp; omega) (Nat.le_refl _)
             clear hg5R)
          | (refine wpList_store_blk rfl 26 (.tmp 10) (.tmp 44) rfl (w8.heap.size + 1) _ rfl rfl 26 _ h52R (size26 _ HE.out) (by simp [HE.out]) (oneCell_bytes64 _) ?_
             intro wF hBR hg6R
             have hAR := h51R.gro hg6R (by omega)
             have hbtR : Below w.heap.size w wF := below_grown hbsR hg6R hbsR.size (by omega)
             have hbpR : Below w8.heap.size w8 wF := below_grown hboR hg6R hboR.size (by omega)
             clear hg6R h51R h52R hbsR hboR))
        have hbq : Below w4.heap.size w4 wF := hbp8.trans (hbpR.mono hbp8.size)
        have hA1 := hAP.below hbq hAP.lt
        have hB1 := hBP.below hbq hBP.lt
        clear hAP hBP hbq hbp8 hbpR hbpP hbtP hb08 hb02
        
        have hl1 := hA1.lt
        dsimp only [Act.put]
        refine wp_region_held_drew (S := fun w' => Blk w' w2.heap.size 24 (D.map U8).toArray ∧ Blk w' (w2.heap.size + 1) 26 (E.map U8).toArray ∧ Blk w' w8.heap.size 24 (D.map U8).toArray ∧ Blk w' (w8.heap.size + 1) 26 (E.map U8).toArray ∧ Below wF.heap.size wF w') (by kernel_rfl) ⟨hA1, hB1, hAR, hBR, (Below.refl _ _).drew⟩ (fun hHeld => ?_)
        refine wpAnyH_take (i := 0) (oi := { dst := some 45, op := Op.load 24 (Operand.tmp 7), type := 24, pos := "law.go:47", after := #[], guard := none }) (v := .agg (D.map U8).toArray) rfl (by kernel_rfl) (by kernel_rfl) (by kernel_rfl) (fun _ _ _ h => h) (Or.inl ⟨by rfl, ?hy0⟩) hHeld ?_
        case hy0 => (exact fun w' hS => exec_load_blk w' _ _ 24 (.tmp 7) rfl w2.heap.size rfl 24 _ _ hS.1 Tryd.underlying24 rfl (size24 _ HD.out))
        simp only [Act.put, List.setIfInBounds_toArray, List.set_cons_zero, List.set_cons_succ]
        refine wpAnyH_take (i := 1) (oi := { dst := some 46, op := Op.load 24 (Operand.tmp 9), type := 24, pos := "law.go:47", after := #[], guard := none }) (v := .agg (D.map U8).toArray) rfl (by kernel_rfl) (by kernel_rfl) (by kernel_rfl) (fun _ _ _ h => h) (Or.inl ⟨by rfl, ?hy1⟩) hHeld ?_
        case hy1 => (exact fun w' hS => exec_load_blk w' _ _ 24 (.tmp 9) rfl w8.heap.size rfl 24 _ _ hS.2.2.1 Tryd.underlying24 rfl (size24 _ HD.out))
        simp only [Act.put, List.setIfInBounds_toArray, List.set_cons_zero, List.set_cons_succ]
        refine wpAnyH_take (i := 2) (oi := { dst := some 47, op := Op.binOp BinOp.eql 24 (Operand.tmp 45) (Operand.tmp 46) 24, type := 4, pos := "law.go:47", after := #[{ on := 0, ground := Ground.data }, { on := 1, ground := Ground.data }], guard := none }) (v := .bool true) rfl (by kernel_rfl) (by kernel_rfl) (by kernel_rfl) (fun _ _ _ h => h) (Or.inl ⟨by rfl, ?hy2⟩) hHeld ?_
        case hy2 => (exact fun w' hS => exec_same_bytes w' _ _ 24 5 _ (.tmp 45) (.tmp 46) rfl 32 .u8 i5 D rfl rfl Tryd.underlying24 hi5 Tryd.underlying5 (by kernel_rfl) (by kernel_rfl) HD.out (by kernel_rfl))
        simp only [Act.put, List.setIfInBounds_toArray, List.set_cons_zero, List.set_cons_succ]
        refine wpAnyH_take (i := 3) (oi := { dst := some 48, op := Op.move (Operand.tmp 47), type := 4, pos := "law.go:47", after := #[{ on := 2, ground := Ground.data }], guard := none }) (v := ?v3) rfl (by kernel_rfl) (by kernel_rfl) (by kernel_rfl) (fun _ _ _ h => h) (Or.inl ⟨by rfl, ?hy3⟩) hHeld ?_
        case hy3 => (intro w hSw; go_simp; rfl)
        simp only [Act.put, List.setIfInBounds_toArray, List.set_cons_zero, List.set_cons_succ]
        refine wpAnyH_take (i := 4) (oi := { dst := some 49, op := Op.load 26 (Operand.tmp 8), type := 26, pos := "law.go:47", after := #[{ on := 3, ground := Ground.guard }], guard := some (3, true) }) (v := .agg (E.map U8).toArray) rfl (by kernel_rfl) (by kernel_rfl) (by kernel_rfl) (fun _ _ _ h => h) (Or.inl ⟨by rfl, ?hy4⟩) hHeld ?_
        case hy4 => (exact fun w' hS => exec_load_blk w' _ _ 26 (.tmp 8) rfl (w2.heap.size + 1) rfl 26 _ _ hS.2.1 Tryd.underlying26 rfl (size26 _ HE.out))
        simp only [Act.put, List.setIfInBounds_toArray, List.set_cons_zero, List.set_cons_succ]
        refine wpAnyH_take (i := 5) (oi := { dst := some 50, op := Op.load 26 (Operand.tmp 10), type := 26, pos := "law.go:47", after := #[{ on := 3, ground := Ground.guard }], guard := some (3, true) }) (v := .agg (E.map U8).toArray) rfl (by kernel_rfl) (by kernel_rfl) (by kernel_rfl) (fun _ _ _ h => h) (Or.inl ⟨by rfl, ?hy5⟩) hHeld ?_
        case hy5 => (exact fun w' hS => exec_load_blk w' _ _ 26 (.tmp 10) rfl (w8.heap.size + 1) rfl 26 _ _ hS.2.2.2.1 Tryd.underlying26 rfl (size26 _ HE.out))
        simp only [Act.put, List.setIfInBounds_toArray, List.set_cons_zero, List.set_cons_succ]
        refine wpAnyH_take (i := 6) (oi := { dst := some 51, op := Op.binOp BinOp.eql 26 (Operand.tmp 49) (Operand.tmp 50) 26, type := 4, pos := "law.go:47", after := #[{ on := 4, ground := Ground.data }, { on := 5, ground := Ground.data }, { on := 3, ground := Ground.guard }], guard := some (3, true) }) (v := .bool true) rfl (by kernel_rfl) (by kernel_rfl) (by kernel_rfl) (fun _ _ _ h => h) (Or.inl ⟨by rfl, ?hy6⟩) hHeld ?_
        case hy6 => (exact fun w' hS => exec_same_bytes w' _ _ 26 5 _ (.tmp 49) (.tmp 50) rfl 64 .u8 i5 E rfl rfl Tryd.underlying26 hi5 Tryd.underlying5 (by kernel_rfl) (by kernel_rfl) HE.out (by kernel_rfl))
        simp only [Act.put, List.setIfInBounds_toArray, List.set_cons_zero, List.set_cons_succ]
        refine wpAnyH_take (i := 7) (oi := { dst := some 52, op := Op.pick (Operand.tmp 48) (Operand.tmp 51) (Operand.const (Value.bool false)), type := 4, pos := "law.go:47", after := #[{ on := 3, ground := Ground.data }, { on := 6, ground := Ground.data }], guard := none }) (v := ?v7) rfl (by kernel_rfl) (by kernel_rfl) (by kernel_rfl) (fun _ _ _ h => h) (Or.inl ⟨by rfl, ?hy7⟩) hHeld ?_
        case hy7 => (intro w hSw; go_simp; rfl)
        simp only [Act.put, List.setIfInBounds_toArray, List.set_cons_zero, List.set_cons_succ]
        refine wpAnyH_take (i := 8) (oi := { dst := some 53, op := Op.move (Operand.tmp 52), type := 4, pos := "law.go:47", after := #[{ on := 7, ground := Ground.data }, { on := 3, ground := Ground.chain }], guard := none }) (v := ?v8) rfl (by kernel_rfl) (by kernel_rfl) (by kernel_rfl) (fun _ _ _ h => h) (Or.inl ⟨by rfl, ?hy8⟩) hHeld ?_
        case hy8 => (intro w hSw; go_simp; rfl)
        simp only [Act.put, List.setIfInBounds_toArray, List.set_cons_zero, List.set_cons_succ]
        refine wpAnyH_take (i := 9) (oi := { dst := some 54, op := Op.slice 24 (Operand.tmp 7) none none none, type := 28, pos := "law.go:47", after := #[{ on := 8, ground := Ground.guard }], guard := some (8, true) }) (v := ?v9) rfl (by kernel_rfl) (by kernel_rfl) (by kernel_rfl) (fun _ _ _ h => h) (Or.inl ⟨by rfl, ?hy9⟩) hHeld ?_
        case hy9 => (intro w hSw; go_simp; rfl)
        simp only [Act.put, List.setIfInBounds_toArray, List.set_cons_zero, List.set_cons_succ]
        refine wpAnyH_take (i := 10) (oi := { dst := some 55, op := Op.convert 28 9 (Operand.tmp 54), type := 9, pos := "law.go:47", after := #[{ on := 9, ground := Ground.data }, { on := 8, ground := Ground.guard }], guard := some (8, true) }) (v := .string ⟨D.toArray⟩) rfl (by kernel_rfl) (by kernel_rfl) (by kernel_rfl) (fun _ _ _ h => h) (Or.inl ⟨by rfl, ?hy10⟩) hHeld ?_
        case hy10 => (exact fun w' hS => exec_string_of w' _ _ 28 9 5 (.tmp 54) rfl Tryd.underlying28 Tryd.underlying5 Tryd.underlying9 w2.heap.size 0 32 32 D rfl HD.out (bytes_of_list' hS.1))
        simp only [Act.put, List.setIfInBounds_toArray, List.set_cons_zero, List.set_cons_succ]
        refine wpAnyH_take (i := 11) (oi := { dst := some 56, op := Op.move (Operand.tmp 3), type := 9, pos := "law.go:47", after := #[{ on := 8, ground := Ground.guard }], guard := some (8, true) }) (v := ?v11) rfl (by kernel_rfl) (by kernel_rfl) (by kernel_rfl) (fun _ _ _ h => h) (Or.inl ⟨by rfl, ?hy11⟩) hHeld ?_
        case hy11 => (intro w hSw; go_simp; rfl)
        simp only [Act.put, List.setIfInBounds_toArray, List.set_cons_zero, List.set_cons_succ]
        refine wpAnyH_ready (rs := [12]) (by kernel_rfl) (by simp) ?_
        refine AllReadyH.cons (o := { dst := some 57, op := Op.call { callee := Callee.value (Operand.func 14), args := #[Operand.tmp 56], argTypes := #[9] }, type := 9, pos := "law.go:47", after := #[{ on := 11, ground := Ground.data }, { on := 8, ground := Ground.chain }, { on := 8, ground := Ground.guard }], guard := some (8, true) }) rfl (fun K hK => ?_) AllReadyH.nil
        go_simp
        refine (HRD.out _).mono ?_
        rintro e wZ ⟨rfl, hbZ⟩
        refine hK.out _ _ ⟨hHeld.1.below hbZ hHeld.1.lt, hHeld.2.1.below hbZ hHeld.2.1.lt, hHeld.2.2.1.below hbZ hHeld.2.2.1.lt, hHeld.2.2.2.1.below hbZ hHeld.2.2.2.1.lt, hHeld.2.2.2.2.trans (hbZ.mono hHeld.2.2.2.2.size)⟩ (fun hHeld2 => ?_)
        clear hK K
        refine wpAnyH_take (i := 13) (oi := { dst := some 58, op := Op.binOp BinOp.eql 9 (Operand.tmp 55) (Operand.tmp 57) 9, type := 4, pos := "law.go:47", after := #[{ on := 10, ground := Ground.data }, { on := 12, ground := Ground.data }, { on := 8, ground := Ground.guard }], guard := some (8, true) }) (v := ?v13) rfl (by kernel_rfl) (by kernel_rfl) (by kernel_rfl) (fun _ _ _ h => h) (Or.inl ⟨by rfl, ?hy13⟩) hHeld2 ?_
        case hy13 => (intro w hSw; go_simp; rfl)
        simp only [Act.put, List.setIfInBounds_toArray, List.set_cons_zero, List.set_cons_succ]
        refine wpAnyH_take (i := 14) (oi := { dst := some 59, op := Op.pick (Operand.tmp 53) (Operand.tmp 58) (Operand.const (Value.bool false)), type := 4, pos := "law.go:47", after := #[{ on := 8, ground := Ground.data }, { on := 13, ground := Ground.data }], guard := none }) (v := ?v14) rfl (by kernel_rfl) (by kernel_rfl) (by kernel_rfl) (fun _ _ _ h => h) (Or.inl ⟨by rfl, ?hy14⟩) hHeld2 ?_
        case hy14 => (intro w hSw; go_simp; rfl)
        simp only [Act.put, List.setIfInBounds_toArray, List.set_cons_zero, List.set_cons_succ]
        refine wpAnyH_take (i := 15) (oi := { dst := some 2, op := Op.assign (Operand.tmp 59), type := 4, pos := "law.go:47", after := #[{ on := 14, ground := Ground.data }, { on := 12, ground := Ground.chain }, { on := 0, ground := Ground.phase }, { on := 1, ground := Ground.phase }, { on := 2, ground := Ground.phase }, { on := 3, ground := Ground.phase }, { on := 4, ground := Ground.phase }, { on := 5, ground := Ground.phase }, { on := 6, ground := Ground.phase }, { on := 7, ground := Ground.phase }, { on := 8, ground := Ground.phase }, { on := 9, ground := Ground.phase }, { on := 10, ground := Ground.phase }, { on := 11, ground := Ground.phase }, { on := 12, ground := Ground.phase }, { on := 13, ground := Ground.phase }, { on := 14, ground := Ground.phase }], guard := none }) (v := ?v15) rfl (by kernel_rfl) (by kernel_rfl) (by kernel_rfl) (fun _ _ _ h => h) (Or.inl ⟨by rfl, ?hy15⟩) hHeld2 ?_
        case hy15 => (intro w hSw; go_simp; rfl)
        simp only [Act.put, List.setIfInBounds_toArray, List.set_cons_zero, List.set_cons_succ]
        refine wpAnyH_done (by kernel_rfl) ?_ _
        have hbFF : Below w.heap.size w _ := hbtR.trans (hHeld2.2.2.2.2.mono hbtR.size)
        clear hHeld hHeld2 hbZ hA1 hB1 hAR hBR hbtR
        go_wp2
        go_ret
        exact ⟨rfl, hbFF⟩
    · have hd1 : decide ((j : Int) < n) = false := decide_eq_false (by omega)
      obtain ⟨wq, rfl⟩ : ∃ wq : World, wq = wr := ⟨_, rfl⟩
      obtain ⟨B, cB, rfl, hst⟩ := strs_of_own hown
      have hsum : sumLen L ≤ 600 := by
        have h1 := length_flat L
        rw [hfl, len_data] at h1
        unfold sumLen; omega
      have hS6 : S.size ≤ 600 := by omega
      obtain ⟨D, hD⟩ : ∃ D, D = sha256 S.data.toList := ⟨_, rfl⟩
      obtain ⟨E, hE⟩ : ∃ E, E = sha512 S.data.toList := ⟨_, rfl⟩
      have HDX := hid hD
      have HEX := hid hE
      have HD : Hid (D.length = 32) := hid (by rw [hD]; exact length_sha256 _)
      have HE : Hid (E.length = 64) := hid (by rw [hE]; exact length_sha512 _)
      have hrD : ∀ W, Calls Tryd.prog 14 #[.string S] W fun e w' => e = .returned (.string ⟨D.toArray⟩) ∧ Below W.heap.size W w' := fun W => by
        rw [hD]
        exact refSum256_any S W (by omega)
      have HRD := hid hrD
      have HFL := hid hfl
      clear hD hE hfl hSs hown hrD
      go_wp2_with fail
      refine (sum256_any (2 * j) cB B L wq hst (hK.below hb0 hK.lt) (by omega) (by omega)).mono ?_
      rintro e w1 ⟨rfl, hbel1⟩
      rw [HFL.out, ← HDX.out]
      have hb01 : Below w.heap.size w w1 := hb0.trans (hbel1.mono hb0.size)
      have hst1 := hst.below' hbel1
      go_wp2_with fail
      refine (sum512_any (2 * j) cB B L w1 hst1 (hK2.below hb01 hK2.lt) (by omega) (by omega)).mono ?_
      rintro e w2 ⟨rfl, hbel2⟩
      rw [HFL.out, ← HEX.out]
      have hb02 : Below w.heap.size w w2 := hb01.trans (hbel2.mono hb01.size)
      clear hst1 hst hbel1 hbel2 hb01 hsum
      have hszw2 := hb02.size
      go_wp2_with (first
        | (refine wpList_store_blk rfl 24 (.tmp 7) (.tmp 36) rfl w2.heap.size _ rfl rfl 24 _ ((Blk.new w2 24 _).alloc _) (size24 _ HD.out) (by simp [HD.out]) (oneCell_bytes32 _) ?_
           intro w3 h51P hg5P
           have h52P := (blk_new2 w2 24 26 _ _).gro hg5P (by omega)
           have hbsP : Below w.heap.size w w3 := below_grown ((hb02.alloc hszw2 _).alloc (by simp; omega) _) hg5P (by simp; omega) hszw2
           have hboP : Below w2.heap.size w2 w3 := below_grown (((Below.refl _ _).alloc (Nat.le_refl _) _).alloc (by simp) _) hg5P (by simp; omega) (Nat.le_refl _)
           clear hg5P)
        | (refine wpList_store_blk rfl 26 (.tmp 8) (.tmp 38) rfl (w2.heap.size + 1) _ rfl rfl 26 _ h52P (size26 _ HE.out) (by simp [HE.out]) (oneCell_bytes64 _) ?_
           intro w4 hBP hg6P
           have hAP := h51P.gro hg6P (by omega)
           have hbtP : Below w.heap.size w w4 := below_grown hbsP hg6P hbsP.size (by omega)
           have hbpP : Below w2.heap.size w2 w4 := below_grown hboP hg6P hboP.size (by omega)
           clear hg6P h51P h52P hbsP hboP))
      obtain ⟨w5, hww5, hbelw5, hbkw5, hszw5⟩ := one_new w4 9 #[.string S]
      have HWw5 := hid hww5
      clear hww5 hszw5
      go_wp2_with fail
      rw [← HWw5.out]
      clear HWw5
      have hb05 : Below w.heap.size w w5 := hbtP.trans (hbelw5.mono hbtP.size)
      refine (sum256_any 1 1 (some ⟨w4.heap.size, 0, none⟩) [S] w5 (strs_one hbkw5) (hK.below hb05 hK.lt) (by omega) (by simp [sumLen]; omega)).mono ?_
      rintro e w6 ⟨rfl, hbel6⟩
      rw [flat_one, ← HDX.out]
      have hb06 : Below w.heap.size w w6 := hb05.trans (hbel6.mono hb05.size)
      have hbp6 : Below w4.heap.size w4 w6 := hbelw5.trans (hbel6.mono hbelw5.size)
      clear hbel6 hbkw5 hbelw5 hb05
      obtain ⟨w7, hww7, hbelw7, hbkw7, hszw7⟩ := one_new w6 9 #[.string S]
      have HWw7 := hid hww7
      clear hww7 hszw7
      go_wp2_with fail
      rw [← HWw7.out]
      clear HWw7
      have hb07 : Below w.heap.size w w7 := hb06.trans (hbelw7.mono hb06.size)
      refine (sum512_any 1 1 (some ⟨w6.heap.size, 0, none⟩) [S] w7 (strs_one hbkw7) (hK2.below hb07 hK2.lt) (by omega) (by simp [sumLen]; omega)).mono ?_
      rintro e w8 ⟨rfl, hbel8⟩
      rw [flat_one, ← HEX.out]
      have hb08 : Below w.heap.size w w8 := hb07.trans (hbel8.mono hb07.size)
      have hbp8 : Below w4.heap.size w4 w8 := hbp6.trans ((hbelw7.mono hbp6.size).trans (hbel8.mono (Nat.le_trans hbp6.size hbelw7.size)))
      clear hbel8 hbkw7 hbelw7 hb07 hbp6 hb06
      have hszw8 := hb08.size
      go_wp2_with (first
        | (refine wpList_store_blk rfl 24 (.tmp 9) (.tmp 41) rfl w8.heap.size _ rfl rfl 24 _ ((Blk.new w8 24 _).alloc _) (size24 _ HD.out) (by simp [HD.out]) (oneCell_bytes32 _) ?_
           intro w9 h51R hg5R
           have h52R := (blk_new2 w8 24 26 _ _).gro hg5R (by omega)
           have hbsR : Below w.heap.size w w9 := below_grown ((hb08.alloc hszw8 _).alloc (by simp; omega) _) hg5R (by simp; omega) hszw8
           have hboR : Below w8.heap.size w8 w9 := below_grown (((Below.refl _ _).alloc (Nat.le_refl _) _).alloc (by simp) _) hg5R (by simp; omega) (Nat.le_refl _)
           clear hg5R)
        | (refine wpList_store_blk rfl 26 (.tmp 10) (.tmp 44) rfl (w8.heap.size + 1) _ rfl rfl 26 _ h52R (size26 _ HE.out) (by simp [HE.out]) (oneCell_bytes64 _) ?_
           intro wF hBR hg6R
           have hAR := h51R.gro hg6R (by omega)
           have hbtR : Below w.heap.size w wF := below_grown hbsR hg6R hbsR.size (by omega)
           have hbpR : Below w8.heap.size w8 wF := below_grown hboR hg6R hboR.size (by omega)
           clear hg6R h51R h52R hbsR hboR))
      have hbq : Below w4.heap.size w4 wF := hbp8.trans (hbpR.mono hbp8.size)
      have hA1 := hAP.below hbq hAP.lt
      have hB1 := hBP.below hbq hBP.lt
      clear hAP hBP hbq hbp8 hbpR hbpP hbtP hb08 hb02
      
      have hl1 := hA1.lt
      dsimp only [Act.put]
      refine wp_region_held_drew (S := fun w' => Blk w' w2.heap.size 24 (D.map U8).toArray ∧ Blk w' (w2.heap.size + 1) 26 (E.map U8).toArray ∧ Blk w' w8.heap.size 24 (D.map U8).toArray ∧ Blk w' (w8.heap.size + 1) 26 (E.map U8).toArray ∧ Below wF.heap.size wF w') (by kernel_rfl) ⟨hA1, hB1, hAR, hBR, (Below.refl _ _).drew⟩ (fun hHeld => ?_)
      refine wpAnyH_take (i := 0) (oi := { dst := some 45, op := Op.load 24 (Operand.tmp 7), type := 24, pos := "law.go:47", after := #[], guard := none }) (v := .agg (D.map U8).toArray) rfl (by kernel_rfl) (by kernel_rfl) (by kernel_rfl) (fun _ _ _ h => h) (Or.inl ⟨by rfl, ?hz0⟩) hHeld ?_
      case hz0 => (exact fun w' hS => exec_load_blk w' _ _ 24 (.tmp 7) rfl w2.heap.size rfl 24 _ _ hS.1 Tryd.underlying24 rfl (size24 _ HD.out))
      simp only [Act.put, List.setIfInBounds_toArray, List.set_cons_zero, List.set_cons_succ]
      refine wpAnyH_take (i := 1) (oi := { dst := some 46, op := Op.load 24 (Operand.tmp 9), type := 24, pos := "law.go:47", after := #[], guard := none }) (v := .agg (D.map U8).toArray) rfl (by kernel_rfl) (by kernel_rfl) (by kernel_rfl) (fun _ _ _ h => h) (Or.inl ⟨by rfl, ?hz1⟩) hHeld ?_
      case hz1 => (exact fun w' hS => exec_load_blk w' _ _ 24 (.tmp 9) rfl w8.heap.size rfl 24 _ _ hS.2.2.1 Tryd.underlying24 rfl (size24 _ HD.out))
      simp only [Act.put, List.setIfInBounds_toArray, List.set_cons_zero, List.set_cons_succ]
      refine wpAnyH_take (i := 2) (oi := { dst := some 47, op := Op.binOp BinOp.eql 24 (Operand.tmp 45) (Operand.tmp 46) 24, type := 4, pos := "law.go:47", after := #[{ on := 0, ground := Ground.data }, { on := 1, ground := Ground.data }], guard := none }) (v := .bool true) rfl (by kernel_rfl) (by kernel_rfl) (by kernel_rfl) (fun _ _ _ h => h) (Or.inl ⟨by rfl, ?hz2⟩) hHeld ?_
      case hz2 => (exact fun w' hS => exec_same_bytes w' _ _ 24 5 _ (.tmp 45) (.tmp 46) rfl 32 .u8 i5 D rfl rfl Tryd.underlying24 hi5 Tryd.underlying5 (by kernel_rfl) (by kernel_rfl) HD.out (by kernel_rfl))
      simp only [Act.put, List.setIfInBounds_toArray, List.set_cons_zero, List.set_cons_succ]
      refine wpAnyH_take (i := 3) (oi := { dst := some 48, op := Op.move (Operand.tmp 47), type := 4, pos := "law.go:47", after := #[{ on := 2, ground := Ground.data }], guard := none }) (v := ?z3) rfl (by kernel_rfl) (by kernel_rfl) (by kernel_rfl) (fun _ _ _ h => h) (Or.inl ⟨by rfl, ?hz3⟩) hHeld ?_
      case hz3 => (intro w hSw; go_simp; rfl)
      simp only [Act.put, List.setIfInBounds_toArray, List.set_cons_zero, List.set_cons_succ]
      refine wpAnyH_take (i := 4) (oi := { dst := some 49, op := Op.load 26 (Operand.tmp 8), type := 26, pos := "law.go:47", after := #[{ on := 3, ground := Ground.guard }], guard := some (3, true) }) (v := .agg (E.map U8).toArray) rfl (by kernel_rfl) (by kernel_rfl) (by kernel_rfl) (fun _ _ _ h => h) (Or.inl ⟨by rfl, ?hz4⟩) hHeld ?_
      case hz4 => (exact fun w' hS => exec_load_blk w' _ _ 26 (.tmp 8) rfl (w2.heap.size + 1) rfl 26 _ _ hS.2.1 Tryd.underlying26 rfl (size26 _ HE.out))
      simp only [Act.put, List.setIfInBounds_toArray, List.set_cons_zero, List.set_cons_succ]
      refine wpAnyH_take (i := 5) (oi := { dst := some 50, op := Op.load 26 (Operand.tmp 10), type := 26, pos := "law.go:47", after := #[{ on := 3, ground := Ground.guard }], guard := some (3, true) }) (v := .agg (E.map U8).toArray) rfl (by kernel_rfl) (by kernel_rfl) (by kernel_rfl) (fun _ _ _ h => h) (Or.inl ⟨by rfl, ?hz5⟩) hHeld ?_
      case hz5 => (exact fun w' hS => exec_load_blk w' _ _ 26 (.tmp 10) rfl (w8.heap.size + 1) rfl 26 _ _ hS.2.2.2.1 Tryd.underlying26 rfl (size26 _ HE.out))
      simp only [Act.put, List.setIfInBounds_toArray, List.set_cons_zero, List.set_cons_succ]
      refine wpAnyH_take (i := 6) (oi := { dst := some 51, op := Op.binOp BinOp.eql 26 (Operand.tmp 49) (Operand.tmp 50) 26, type := 4, pos := "law.go:47", after := #[{ on := 4, ground := Ground.data }, { on := 5, ground := Ground.data }, { on := 3, ground := Ground.guard }], guard := some (3, true) }) (v := .bool true) rfl (by kernel_rfl) (by kernel_rfl) (by kernel_rfl) (fun _ _ _ h => h) (Or.inl ⟨by rfl, ?hz6⟩) hHeld ?_
      case hz6 => (exact fun w' hS => exec_same_bytes w' _ _ 26 5 _ (.tmp 49) (.tmp 50) rfl 64 .u8 i5 E rfl rfl Tryd.underlying26 hi5 Tryd.underlying5 (by kernel_rfl) (by kernel_rfl) HE.out (by kernel_rfl))
      simp only [Act.put, List.setIfInBounds_toArray, List.set_cons_zero, List.set_cons_succ]
      refine wpAnyH_take (i := 7) (oi := { dst := some 52, op := Op.pick (Operand.tmp 48) (Operand.tmp 51) (Operand.const (Value.bool false)), type := 4, pos := "law.go:47", after := #[{ on := 3, ground := Ground.data }, { on := 6, ground := Ground.data }], guard := none }) (v := ?z7) rfl (by kernel_rfl) (by kernel_rfl) (by kernel_rfl) (fun _ _ _ h => h) (Or.inl ⟨by rfl, ?hz7⟩) hHeld ?_
      case hz7 => (intro w hSw; go_simp; rfl)
      simp only [Act.put, List.setIfInBounds_toArray, List.set_cons_zero, List.set_cons_succ]
      refine wpAnyH_take (i := 8) (oi := { dst := some 53, op := Op.move (Operand.tmp 52), type := 4, pos := "law.go:47", after := #[{ on := 7, ground := Ground.data }, { on := 3, ground := Ground.chain }], guard := none }) (v := ?z8) rfl (by kernel_rfl) (by kernel_rfl) (by kernel_rfl) (fun _ _ _ h => h) (Or.inl ⟨by rfl, ?hz8⟩) hHeld ?_
      case hz8 => (intro w hSw; go_simp; rfl)
      simp only [Act.put, List.setIfInBounds_toArray, List.set_cons_zero, List.set_cons_succ]
      refine wpAnyH_take (i := 9) (oi := { dst := some 54, op := Op.slice 24 (Operand.tmp 7) none none none, type := 28, pos := "law.go:47", after := #[{ on := 8, ground := Ground.guard }], guard := some (8, true) }) (v := ?z9) rfl (by kernel_rfl) (by kernel_rfl) (by kernel_rfl) (fun _ _ _ h => h) (Or.inl ⟨by rfl, ?hz9⟩) hHeld ?_
      case hz9 => (intro w hSw; go_simp; rfl)
      simp only [Act.put, List.setIfInBounds_toArray, List.set_cons_zero, List.set_cons_succ]
      refine wpAnyH_take (i := 10) (oi := { dst := some 55, op := Op.convert 28 9 (Operand.tmp 54), type := 9, pos := "law.go:47", after := #[{ on := 9, ground := Ground.data }, { on := 8, ground := Ground.guard }], guard := some (8, true) }) (v := .string ⟨D.toArray⟩) rfl (by kernel_rfl) (by kernel_rfl) (by kernel_rfl) (fun _ _ _ h => h) (Or.inl ⟨by rfl, ?hz10⟩) hHeld ?_
      case hz10 => (exact fun w' hS => exec_string_of w' _ _ 28 9 5 (.tmp 54) rfl Tryd.underlying28 Tryd.underlying5 Tryd.underlying9 w2.heap.size 0 32 32 D rfl HD.out (bytes_of_list' hS.1))
      simp only [Act.put, List.setIfInBounds_toArray, List.set_cons_zero, List.set_cons_succ]
      refine wpAnyH_take (i := 11) (oi := { dst := some 56, op := Op.move (Operand.tmp 3), type := 9, pos := "law.go:47", after := #[{ on := 8, ground := Ground.guard }], guard := some (8, true) }) (v := ?z11) rfl (by kernel_rfl) (by kernel_rfl) (by kernel_rfl) (fun _ _ _ h => h) (Or.inl ⟨by rfl, ?hz11⟩) hHeld ?_
      case hz11 => (intro w hSw; go_simp; rfl)
      simp only [Act.put, List.setIfInBounds_toArray, List.set_cons_zero, List.set_cons_succ]
      refine wpAnyH_ready (rs := [12]) (by kernel_rfl) (by simp) ?_
      refine AllReadyH.cons (o := { dst := some 57, op := Op.call { callee := Callee.value (Operand.func 14), args := #[Operand.tmp 56], argTypes := #[9] }, type := 9, pos := "law.go:47", after := #[{ on := 11, ground := Ground.data }, { on := 8, ground := Ground.chain }, { on := 8, ground := Ground.guard }], guard := some (8, true) }) rfl (fun K hK => ?_) AllReadyH.nil
      go_simp
      refine (HRD.out _).mono ?_
      rintro e wZ ⟨rfl, hbZ⟩
      refine hK.out _ _ ⟨hHeld.1.below hbZ hHeld.1.lt, hHeld.2.1.below hbZ hHeld.2.1.lt, hHeld.2.2.1.below hbZ hHeld.2.2.1.lt, hHeld.2.2.2.1.below hbZ hHeld.2.2.2.1.lt, hHeld.2.2.2.2.trans (hbZ.mono hHeld.2.2.2.2.size)⟩ (fun hHeld2 => ?_)
      clear hK K
      refine wpAnyH_take (i := 13) (oi := { dst := some 58, op := Op.binOp BinOp.eql 9 (Operand.tmp 55) (Operand.tmp 57) 9, type := 4, pos := "law.go:47", after := #[{ on := 10, ground := Ground.data }, { on := 12, ground := Ground.data }, { on := 8, ground := Ground.guard }], guard := some (8, true) }) (v := ?z13) rfl (by kernel_rfl) (by kernel_rfl) (by kernel_rfl) (fun _ _ _ h => h) (Or.inl ⟨by rfl, ?hz13⟩) hHeld2 ?_
      case hz13 => (intro w hSw; go_simp; rfl)
      simp only [Act.put, List.setIfInBounds_toArray, List.set_cons_zero, List.set_cons_succ]
      refine wpAnyH_take (i := 14) (oi := { dst := some 59, op := Op.pick (Operand.tmp 53) (Operand.tmp 58) (Operand.const (Value.bool false)), type := 4, pos := "law.go:47", after := #[{ on := 8, ground := Ground.data }, { on := 13, ground := Ground.data }], guard := none }) (v := ?z14) rfl (by kernel_rfl) (by kernel_rfl) (by kernel_rfl) (fun _ _ _ h => h) (Or.inl ⟨by rfl, ?hz14⟩) hHeld2 ?_
      case hz14 => (intro w hSw; go_simp; rfl)
      simp only [Act.put, List.setIfInBounds_toArray, List.set_cons_zero, List.set_cons_succ]
      refine wpAnyH_take (i := 15) (oi := { dst := some 2, op := Op.assign (Operand.tmp 59), type := 4, pos := "law.go:47", after := #[{ on := 14, ground := Ground.data }, { on := 12, ground := Ground.chain }, { on := 0, ground := Ground.phase }, { on := 1, ground := Ground.phase }, { on := 2, ground := Ground.phase }, { on := 3, ground := Ground.phase }, { on := 4, ground := Ground.phase }, { on := 5, ground := Ground.phase }, { on := 6, ground := Ground.phase }, { on := 7, ground := Ground.phase }, { on := 8, ground := Ground.phase }, { on := 9, ground := Ground.phase }, { on := 10, ground := Ground.phase }, { on := 11, ground := Ground.phase }, { on := 12, ground := Ground.phase }, { on := 13, ground := Ground.phase }, { on := 14, ground := Ground.phase }], guard := none }) (v := ?z15) rfl (by kernel_rfl) (by kernel_rfl) (by kernel_rfl) (fun _ _ _ h => h) (Or.inl ⟨by rfl, ?hz15⟩) hHeld2 ?_
      case hz15 => (intro w hSw; go_simp; rfl)
      simp only [Act.put, List.setIfInBounds_toArray, List.set_cons_zero, List.set_cons_succ]
      refine wpAnyH_done (by kernel_rfl) ?_ _
      have hbFF : Below w.heap.size w _ := hbtR.trans (hHeld2.2.2.2.2.mono hbtR.size)
      clear hHeld hHeld2 hbZ hA1 hB1 hAR hBR hbtR
      go_wp2
      go_ret
      exact ⟨rfl, hbFF⟩
end Go.Proofs.YtghjndcbnnbloaaDoor
