/-
  The law ShaSums, walked.
-/
import Derived.Test.YtghjndcbnnbloaaDoorAw
import Derived.Test.YtghjndcbnnbloaaDoorRf
import Derived.Deep.RegionHeld3
namespace Go.Proofs.YtghjndcbnnbloaaDoor
open Go.RowKit
theorem exec_string_of {P : Program} (w : World) (o : Oper) (a : Act) (s d e : TypeId) (x : Operand) (ho : o.op = .convert s d x) (hs : P.underlying s = some (.slice e)) (he : P.underlying e = some (.int .u8)) (hd : P.underlying d = some .string)
    (b off n c : Nat) (bs : List UInt8) (hx : a.eval x = .slice (some ⟨b, off, none⟩) n c) (hn : bs.length = n) (hb : Bytes w b off bs) : (execOp a.eval o).run P w = .ok (.value (.string ⟨bs.toArray⟩)) w := by
  subst hn
  have hr := run_convert_bytes_back (P := P) w s d e _ c bs hs he hd (cells_of_bytes hb)
  unfold execOp
  simp only [ho, hx, Sem.run_bind, Sem.run_pure, Result.andThen_ok, hr]

set_option maxHeartbeats 1000000 in
set_option maxRecDepth 100000 in
theorem shaSums_any (s : ByteArray) (w : World) (hs : s.size ≤ maxLen) (hK : KAt32 w) (hK2 : KAt64 w) :
    Calls Tryd.prog 3 #[.string s] w fun e w' => e = .returned (.bool true) ∧ Below w.heap.size w w' := by
  go_enter Tryd.func3, Tryd.ntmps3
  go_wp2_with fail
  refine (awake_any w hK hK2).mono ?_
  rintro e w0 ⟨rfl, hb0⟩
  go_wp2_with fail
  refine (cut_any s 600 w0 hs (by omega) (by omega)).mono ?_
  rintro e w0' ⟨t, rfl, ht, hq, rfl⟩
  clear hq
  obtain ⟨w1, hw1, hbel1, hb1, hsz1⟩ := one_new w0 9 #[.string t]
  have HW1 := hid hw1
  have hsz1' : w0.heap.size + 1 ≤ w1.heap.size := by omega
  clear hw1 hsz1
  go_wp2_with fail
  rw [← HW1.out]
  clear HW1
  have hb01 : Below w.heap.size w w1 := hb0.trans (hbel1.mono hb0.size)
  refine (sum256_any 1 1 (some ⟨w0.heap.size, 0, none⟩) [t] w1 (strs_one hb1) (hK.below hb01 hK.lt) (by omega) (by simp [sumLen]; omega)).mono ?_
  rintro e w2 ⟨rfl, hbel2⟩
  rw [flat_one]
  have hD : (sha256 t.data.toList).length = 32 := length_sha256 _
  have hrD := fun W => refSum256_any t W (by omega)
  generalize sha256 t.data.toList = D at hD hrD ⊢
  have HD := hid hD
  have HRD := hid hrD
  clear hD hrD
  have hb02 : Below w.heap.size w w2 := hb01.trans (hbel2.mono hb01.size)
  have hsz2 := hb02.size
  obtain ⟨w3, hw3, hbel3, hb3, hsz3⟩ := one_new w2 9 #[.string t]
  have HW3 := hid hw3
  have hsz3' : w2.heap.size + 1 ≤ w3.heap.size := by omega
  clear hw3 hsz3
  go_wp2_with fail
  rw [← HW3.out]
  clear HW3
  have hb03 : Below w.heap.size w w3 := hb02.trans (hbel3.mono (by omega))
  refine (sum512_any 1 1 (some ⟨w2.heap.size, 0, none⟩) [t] w3 (strs_one hb3) (hK2.below hb03 hK2.lt) (by omega) (by simp [sumLen]; omega)).mono ?_
  rintro e w4 ⟨rfl, hbel4⟩
  rw [flat_one]
  have hE : (sha512 t.data.toList).length = 64 := length_sha512 _
  have hrE := fun W => refSum512_any t W (by omega)
  generalize sha512 t.data.toList = E at hE hrE ⊢
  have HE := hid hE
  have HRE := hid hrE
  clear hE hrE
  have hb04 : Below w.heap.size w w4 := hb03.trans (hbel4.mono hb03.size)
  clear hb02 hbel2 hbel3 hb3 hbel4 hb03 hbel1 hb1 hb01
  have hsz4 := hb04.size
  go_wp2_with (first
    | (refine wpList_store_blk rfl 24 (.tmp 3) (.tmp 11) rfl w4.heap.size _ rfl rfl 24 _ ((Blk.new w4 24 _).alloc _) (size24 _ HD.out) (by simp [HD.out]) (oneCell_bytes32 _) ?_
       intro w5 h51 hg5
       have h52 := (blk_new2 w4 24 26 _ _).gro hg5 (by omega)
       have hb05 : Below w.heap.size w w5 := below_grown ((hb04.alloc hsz4 _).alloc (by simp; omega) _) hg5 (by simp; omega) hsz4
       clear hg5)
    | (refine wpList_store_blk rfl 26 (.tmp 4) (.tmp 14) rfl (w4.heap.size + 1) _ rfl rfl 26 _ h52 (size26 _ HE.out) (by simp [HE.out]) (oneCell_bytes64 _) ?_
       intro w6 h62 hg6
       have h61 := h51.gro hg6 (by omega)
       have hb06 : Below w.heap.size w w6 := below_grown hb05 hg6 hb05.size (by omega)
       clear hg6 h51 h52 hb05))
  have hbD : Bytes w6 w4.heap.size 0 D := bytes_of_list' h61
  have hbE : Bytes w6 (w4.heap.size + 1) 0 E := bytes_of_list' h62
  have hl1 := h61.lt
  have hl2 := h62.lt
  clear h61 h62
  dsimp only [Act.put]
  refine wp_region_held_drew (S := fun w' => Bytes w' w4.heap.size 0 D ∧ Bytes w' (w4.heap.size + 1) 0 E ∧ Below w6.heap.size w6 w') (by kernel_rfl) ⟨hbD, hbE, (Below.refl _ _).drew⟩ (fun hHeld => ?_)
  refine wpAnyH_take (i := 0) (oi := { dst := some 15, op := Op.slice 24 (Operand.tmp 3) none none none, type := 28, pos := "law.go:30", after := #[], guard := none }) (v := ?v0) rfl (by kernel_rfl) (by kernel_rfl) (by kernel_rfl) (fun _ _ _ h => h) (Or.inl ⟨by rfl, ?hy0⟩) hHeld ?_
  case hy0 => (intro w hSw; go_simp; rfl)
  simp only [Act.put, List.setIfInBounds_toArray, List.set_cons_zero, List.set_cons_succ]
  refine wpAnyH_take (i := 1) (oi := { dst := some 16, op := Op.convert 28 9 (Operand.tmp 15), type := 9, pos := "law.go:30", after := #[{ on := 0, ground := Ground.data }], guard := none }) (v := .string ⟨D.toArray⟩) rfl (by kernel_rfl) (by kernel_rfl) (by kernel_rfl) (fun _ _ _ h => h) (Or.inl ⟨by rfl, ?hy1⟩) hHeld ?_
  case hy1 => (exact fun w' hS => exec_string_of w' _ _ 28 9 5 (.tmp 15) rfl Tryd.underlying28 Tryd.underlying5 Tryd.underlying9 w4.heap.size 0 32 32 D rfl HD.out hS.1)
  simp only [Act.put, List.setIfInBounds_toArray, List.set_cons_zero, List.set_cons_succ]
  refine wpAnyH_take (i := 2) (oi := { dst := some 17, op := Op.move (Operand.tmp 0), type := 9, pos := "law.go:30", after := #[], guard := none }) (v := ?v2) rfl (by kernel_rfl) (by kernel_rfl) (by kernel_rfl) (fun _ _ _ h => h) (Or.inl ⟨by rfl, ?hy2⟩) hHeld ?_
  case hy2 => (intro w hSw; go_simp; rfl)
  simp only [Act.put, List.setIfInBounds_toArray, List.set_cons_zero, List.set_cons_succ]
  refine wpAnyH_ready (rs := [3]) (by kernel_rfl) (by simp) ?_
  refine AllReadyH.cons (o := { dst := some 18, op := Op.call { callee := Callee.value (Operand.func 14), args := #[Operand.tmp 17], argTypes := #[9] }, type := 9, pos := "law.go:30", after := #[{ on := 2, ground := Ground.data }], guard := none }) rfl (fun K hK => ?_) AllReadyH.nil
  go_simp
  refine (HRD.out _).mono ?_
  rintro e w7 ⟨rfl, hb7⟩
  refine hK.out _ _ ⟨hHeld.1.below hb7 (Nat.lt_of_lt_of_le hl1 hHeld.2.2.size), hHeld.2.1.below hb7 (Nat.lt_of_lt_of_le hl2 hHeld.2.2.size), hHeld.2.2.trans (hb7.mono hHeld.2.2.size)⟩ (fun hHeld2 => ?_)
  clear hK K
  clear hHeld hb7
  refine wpAnyH_take (i := 4) (oi := { dst := some 19, op := Op.binOp BinOp.eql 9 (Operand.tmp 16) (Operand.tmp 18) 9, type := 4, pos := "law.go:30", after := #[{ on := 1, ground := Ground.data }, { on := 3, ground := Ground.data }], guard := none }) (v := ?v4) rfl (by kernel_rfl) (by kernel_rfl) (by kernel_rfl) (fun _ _ _ h => h) (Or.inl ⟨by rfl, ?hy4⟩) hHeld2 ?_
  case hy4 => (intro w hSw; go_simp; rfl)
  simp only [Act.put, List.setIfInBounds_toArray, List.set_cons_zero, List.set_cons_succ]
  refine wpAnyH_take (i := 5) (oi := { dst := some 20, op := Op.move (Operand.tmp 19), type := 4, pos := "law.go:30", after := #[{ on := 4, ground := Ground.data }, { on := 3, ground := Ground.chain }], guard := none }) (v := ?v5) rfl (by kernel_rfl) (by kernel_rfl) (by kernel_rfl) (fun _ _ _ h => h) (Or.inl ⟨by rfl, ?hy5⟩) hHeld2 ?_
  case hy5 => (intro w hSw; go_simp; rfl)
  simp only [Act.put, List.setIfInBounds_toArray, List.set_cons_zero, List.set_cons_succ]
  refine wpAnyH_take (i := 6) (oi := { dst := some 21, op := Op.slice 26 (Operand.tmp 4) none none none, type := 28, pos := "law.go:30", after := #[{ on := 5, ground := Ground.guard }], guard := some (5, true) }) (v := ?v6) rfl (by kernel_rfl) (by kernel_rfl) (by kernel_rfl) (fun _ _ _ h => h) (Or.inl ⟨by rfl, ?hy6⟩) hHeld2 ?_
  case hy6 => (intro w hSw; go_simp; rfl)
  simp only [Act.put, List.setIfInBounds_toArray, List.set_cons_zero, List.set_cons_succ]
  refine wpAnyH_take (i := 7) (oi := { dst := some 22, op := Op.convert 28 9 (Operand.tmp 21), type := 9, pos := "law.go:30", after := #[{ on := 6, ground := Ground.data }, { on := 5, ground := Ground.guard }], guard := some (5, true) }) (v := .string ⟨E.toArray⟩) rfl (by kernel_rfl) (by kernel_rfl) (by kernel_rfl) (fun _ _ _ h => h) (Or.inl ⟨by rfl, ?hy7⟩) hHeld2 ?_
  case hy7 => (exact fun w' hS => exec_string_of w' _ _ 28 9 5 (.tmp 21) rfl Tryd.underlying28 Tryd.underlying5 Tryd.underlying9 (w4.heap.size + 1) 0 64 64 E rfl HE.out hS.2.1)
  simp only [Act.put, List.setIfInBounds_toArray, List.set_cons_zero, List.set_cons_succ]
  refine wpAnyH_take (i := 8) (oi := { dst := some 23, op := Op.move (Operand.tmp 0), type := 9, pos := "law.go:30", after := #[{ on := 5, ground := Ground.guard }], guard := some (5, true) }) (v := ?v8) rfl (by kernel_rfl) (by kernel_rfl) (by kernel_rfl) (fun _ _ _ h => h) (Or.inl ⟨by rfl, ?hy8⟩) hHeld2 ?_
  case hy8 => (intro w hSw; go_simp; rfl)
  simp only [Act.put, List.setIfInBounds_toArray, List.set_cons_zero, List.set_cons_succ]
  refine wpAnyH_ready (rs := [9]) (by kernel_rfl) (by simp) ?_
  refine AllReadyH.cons (o := { dst := some 24, op := Op.call { callee := Callee.value (Operand.func 15), args := #[Operand.tmp 23], argTypes := #[9] }, type := 9, pos := "law.go:30", after := #[{ on := 8, ground := Ground.data }, { on := 5, ground := Ground.chain }, { on := 5, ground := Ground.guard }], guard := some (5, true) }) rfl (fun K hK => ?_) AllReadyH.nil
  go_simp
  refine (HRE.out _).mono ?_
  rintro e w8 ⟨rfl, hb8⟩
  refine hK.out _ _ ⟨hHeld2.1.below hb8 (Nat.lt_of_lt_of_le hl1 hHeld2.2.2.size), hHeld2.2.1.below hb8 (Nat.lt_of_lt_of_le hl2 hHeld2.2.2.size), hHeld2.2.2.trans (hb8.mono hHeld2.2.2.size)⟩ (fun hHeld3 => ?_)
  clear hK K
  refine wpAnyH_take (i := 10) (oi := { dst := some 25, op := Op.binOp BinOp.eql 9 (Operand.tmp 22) (Operand.tmp 24) 9, type := 4, pos := "law.go:30", after := #[{ on := 7, ground := Ground.data }, { on := 9, ground := Ground.data }, { on := 5, ground := Ground.guard }], guard := some (5, true) }) (v := ?v10) rfl (by kernel_rfl) (by kernel_rfl) (by kernel_rfl) (fun _ _ _ h => h) (Or.inl ⟨by rfl, ?hy10⟩) hHeld3 ?_
  case hy10 => (intro w hSw; go_simp; rfl)
  simp only [Act.put, List.setIfInBounds_toArray, List.set_cons_zero, List.set_cons_succ]
  refine wpAnyH_take (i := 11) (oi := { dst := some 26, op := Op.pick (Operand.tmp 20) (Operand.tmp 25) (Operand.const (Value.bool false)), type := 4, pos := "law.go:30", after := #[{ on := 5, ground := Ground.data }, { on := 10, ground := Ground.data }], guard := none }) (v := ?v11) rfl (by kernel_rfl) (by kernel_rfl) (by kernel_rfl) (fun _ _ _ h => h) (Or.inl ⟨by rfl, ?hy11⟩) hHeld3 ?_
  case hy11 => (intro w hSw; go_simp; rfl)
  simp only [Act.put, List.setIfInBounds_toArray, List.set_cons_zero, List.set_cons_succ]
  refine wpAnyH_take (i := 12) (oi := { dst := some 2, op := Op.assign (Operand.tmp 26), type := 4, pos := "law.go:30", after := #[{ on := 11, ground := Ground.data }, { on := 9, ground := Ground.chain }, { on := 0, ground := Ground.phase }, { on := 1, ground := Ground.phase }, { on := 2, ground := Ground.phase }, { on := 3, ground := Ground.phase }, { on := 4, ground := Ground.phase }, { on := 5, ground := Ground.phase }, { on := 6, ground := Ground.phase }, { on := 7, ground := Ground.phase }, { on := 8, ground := Ground.phase }, { on := 9, ground := Ground.phase }, { on := 10, ground := Ground.phase }, { on := 11, ground := Ground.phase }], guard := none }) (v := ?v12) rfl (by kernel_rfl) (by kernel_rfl) (by kernel_rfl) (fun _ _ _ h => h) (Or.inl ⟨by rfl, ?hy12⟩) hHeld3 ?_
  case hy12 => (intro w hSw; go_simp; rfl)
  simp only [Act.put, List.setIfInBounds_toArray, List.set_cons_zero, List.set_cons_succ]
  refine wpAnyH_done (by kernel_rfl) ?_ _
  have hbF : Below w.heap.size w _ := hb06.trans (hHeld3.2.2.mono hb06.size)
  clear hHeld2 hHeld3 hb8
  go_wp2
  go_ret
  exact ⟨rfl, hbF⟩
end Go.Proofs.YtghjndcbnnbloaaDoor
