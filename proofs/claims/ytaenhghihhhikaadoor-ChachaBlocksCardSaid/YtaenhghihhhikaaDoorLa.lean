/-
  The law ChachaBlocks, walked.
-/
import Derived.Test.YtaenhghihhhikaaDoorAw
import Derived.Test.YtaenhghihhhikaaDoorYx
namespace Go.Proofs.YtaenhghihhhikaaDoor
open Go.RowKit
theorem exec_string_of {P : Program} (w : World) (o : Oper) (a : Act) (s d e : TypeId) (x : Operand) (ho : o.op = .convert s d x) (hs : P.underlying s = some (.slice e)) (he : P.underlying e = some (.int .u8)) (hd : P.underlying d = some .string)
    (b off n c : Nat) (bs : List UInt8) (hx : a.eval x = .slice (some ⟨b, off, none⟩) n c) (hn : bs.length = n) (hb : Bytes w b off bs) : (execOp a.eval o).run P w = .ok (.value (.string ⟨bs.toArray⟩)) w := by
  subst hn
  have hr := run_convert_bytes_back (P := P) w s d e _ c bs hs he hd (cells_of_bytes hb)
  unfold execOp
  simp only [ho, hx, Sem.run_bind, Sem.run_pure, Result.andThen_ok, hr]
theorem two_new' (w : World) (t t' : TypeId) (A B : Array Value) : ∃ w0 : World, w0 = (w.alloc (.cells A t)).alloc (.cells B t') ∧ Below w.heap.size w w0 ∧ Blk w0 w.heap.size t A ∧ Blk w0 (w.heap.size + 1) t' B ∧ w0.heap.size = w.heap.size + 2 :=
  ⟨_, rfl, ((Below.refl _ _).alloc (Nat.le_refl _) _).alloc (by simp) _, (Blk.new w t A).alloc _, by simpa using Blk.new (w.alloc (.cells A t)) t' B, by simp⟩
set_option maxHeartbeats 1000000 in
set_option maxRecDepth 100000 in
theorem chachaBlocks_any (key nonce : List UInt8) (ctr : UInt32) (w : World) (hk : key.length = 32) (hn : nonce.length = 12) (hQ : QAt w) :
    Calls Tryd.prog 3 #[.agg (key.map U8).toArray, U32 ctr, .agg (nonce.map U8).toArray] w fun e w' => e = .returned (.bool true) ∧ Below w.heap.size w w' := by
  obtain ⟨w0, hw0, hbel0, hk0, hn0, hs0⟩ := two_new' w 22 24 (key.map U8).toArray (nonce.map U8).toArray
  have HW := hid hw0
  have hkl := hid hk
  have hnl := hid hn
  have hQ0 := hQ.below hbel0 hQ.lt
  have hs0' : w.heap.size + 2 ≤ w0.heap.size := by omega
  clear hw0 hk hn hQ hs0
  go_enter Tryd.func3, Tryd.ntmps3
  go_wp2_with fail
  rw [← HW.out]
  refine (awake3_any w0 hQ0).mono ?_
  rintro e wa ⟨rfl, hba⟩
  have hbela := hbel0.trans (hba.mono (by omega))
  have hka := hk0.below hba (by omega)
  have hna := hn0.below hba (by omega)
  have hQa := hQ0.below hba hQ0.lt
  clear hba hbel0 hk0 hn0 hQ0 HW
  go_wp2_with (first
    | (refine wpList_load_blk rfl 22 (.tmp 3) rfl w.heap.size rfl 22 _ _ hka Tryd.underlying22 rfl (size22 _ hkl.out) ?_)
    | (refine wpList_load_blk rfl 24 (.tmp 5) rfl (w.heap.size + 1) rfl 24 _ _ hna Tryd.underlying24 rfl (size24 _ hnl.out) ?_))
  refine (cblock_any key nonce ctr wa hkl.out hnl.out hQa).mono ?_
  rintro e w1 ⟨rfl, hb1⟩
  have hbel1 := hbela.trans (hb1.mono hbela.size)
  have hk1 := hka.below hb1 hka.lt
  have hn1 := hna.below hb1 hna.lt
  have hD : (cBlock key ctr nonce).length = 64 := length_cBlock _ _ _
  have hsz := hbel1.size
  have hlk1 := hk1.lt
  have hln1 := hn1.lt
  clear hb1 hbela hka hna hQa
  obtain ⟨D, hDD⟩ : ∃ D, D = cBlock key ctr nonce := ⟨_, rfl⟩
  rw [← hDD] at hD ⊢
  have HD := hid hD
  have HDD := hid hDD
  clear hD hDD
  go_wp2_with (refine wpList_store_blk rfl 26 (.tmp 7) (.tmp 13) rfl w1.heap.size _ rfl rfl 26 _ (Blk.new w1 26 _) (size26 _ HD.out) (by rw [size_map _ _ _ HD.out]; rfl) (oneCell_map _ (fun _ => rfl) _) ?_
               intro w2 h2 hg2
               have hbel2 := below_grown (hbel1.alloc hsz _) hg2 (by simp; omega) hsz
               have hk2 := (hk1.alloc _).gro hg2 (by omega)
               have hn2 := (hn1.alloc _).gro hg2 (by omega)
               clear hg2)
  have hbD : Bytes w2 w1.heap.size 0 D := bytes_map h2
  have hbK : Bytes w2 w.heap.size 0 key := bytes_map hk2
  have hbN : Bytes w2 (w.heap.size + 1) 0 nonce := bytes_map hn2
  have hlD := h2.lt
  have hlK := hk2.lt
  have hlN := hn2.lt
  have hcv : IntKind.u64.wrap (n32 ctr) = n32 ctr := by rw [wrap_u64]; have h0 := n32_nonneg ctr; have h1 := n32_lt ctr; omega
  have hks := hid (show (ByteArray.mk key.toArray).size = 32 by show key.toArray.size = 32; rw [List.size_toArray]; exact hkl.out)
  have hns := hid (show (ByteArray.mk nonce.toArray).size = 12 by show nonce.toArray.size = 12; rw [List.size_toArray]; exact hnl.out)
  have hce := hid (show n32 ctr % 4294967296 = n32 ctr by have h0 := n32_nonneg ctr; have h1 := n32_lt ctr; omega)
  clear h2 hk2 hn2 hk1 hn1 hbel1
  dsimp only [Act.put]
  refine wp_region_held_drew (S := fun w' => Bytes w' w1.heap.size 0 D ∧ Bytes w' w.heap.size 0 key ∧ Bytes w' (w.heap.size + 1) 0 nonce ∧ Below w2.heap.size w2 w') (by kernel_rfl) ⟨hbD, hbK, hbN, (Below.refl _ _).drew⟩ (fun hHeldw => ?_)
  refine wpAnyH_take (i := 0) (oi := { dst := some 14, op := Op.slice 26 (Operand.tmp 7) none none none, type := 28, pos := "law.go:27", after := #[], guard := none }) (v := ?vw0) rfl (by kernel_rfl) (by kernel_rfl) (by kernel_rfl) (fun _ _ _ h => h) (Or.inl ⟨by rfl, ?hyw0⟩) hHeldw ?_
  case hyw0 => (intro w hSw; go_simp; rfl)
  simp only [Act.put, List.setIfInBounds_toArray, List.set_cons_zero, List.set_cons_succ]
  refine wpAnyH_take (i := 1) (oi := { dst := some 15, op := Op.convert 28 9 (Operand.tmp 14), type := 9, pos := "law.go:27", after := #[{ on := 0, ground := Ground.data }], guard := none }) (v := .string ⟨D.toArray⟩) rfl (by kernel_rfl) (by kernel_rfl) (by kernel_rfl) (fun _ _ _ h => h) (Or.inl ⟨by rfl, ?hyw1⟩) hHeldw ?_
  case hyw1 => (exact fun w' hS => exec_string_of w' _ _ 28 9 5 (.tmp 14) rfl Tryd.underlying28 Tryd.underlying5 Tryd.underlying9 w1.heap.size 0 64 64 D rfl HD.out hS.1)
  simp only [Act.put, List.setIfInBounds_toArray, List.set_cons_zero, List.set_cons_succ]
  refine wpAnyH_take (i := 2) (oi := { dst := some 16, op := Op.slice 22 (Operand.tmp 3) none none none, type := 28, pos := "law.go:27", after := #[], guard := none }) (v := ?vw2) rfl (by kernel_rfl) (by kernel_rfl) (by kernel_rfl) (fun _ _ _ h => h) (Or.inl ⟨by rfl, ?hyw2⟩) hHeldw ?_
  case hyw2 => (intro w hSw; go_simp; rfl)
  simp only [Act.put, List.setIfInBounds_toArray, List.set_cons_zero, List.set_cons_succ]
  refine wpAnyH_take (i := 3) (oi := { dst := some 17, op := Op.convert 28 9 (Operand.tmp 16), type := 9, pos := "law.go:27", after := #[{ on := 2, ground := Ground.data }], guard := none }) (v := .string ⟨key.toArray⟩) rfl (by kernel_rfl) (by kernel_rfl) (by kernel_rfl) (fun _ _ _ h => h) (Or.inl ⟨by rfl, ?hyw3⟩) hHeldw ?_
  case hyw3 => (exact fun w' hS => exec_string_of w' _ _ 28 9 5 (.tmp 16) rfl Tryd.underlying28 Tryd.underlying5 Tryd.underlying9 w.heap.size 0 32 32 key rfl hkl.out hS.2.1)
  simp only [Act.put, List.setIfInBounds_toArray, List.set_cons_zero, List.set_cons_succ]
  refine wpAnyH_take (i := 4) (oi := { dst := some 18, op := Op.move (Operand.tmp 1), type := 23, pos := "law.go:27", after := #[], guard := none }) (v := ?vw4) rfl (by kernel_rfl) (by kernel_rfl) (by kernel_rfl) (fun _ _ _ h => h) (Or.inl ⟨by rfl, ?hyw4⟩) hHeldw ?_
  case hyw4 => (intro w hSw; go_simp; rfl)
  simp only [Act.put, List.setIfInBounds_toArray, List.set_cons_zero, List.set_cons_succ]
  refine wpAnyH_take (i := 5) (oi := { dst := some 19, op := Op.convert 23 30 (Operand.tmp 18), type := 30, pos := "law.go:27", after := #[{ on := 4, ground := Ground.data }], guard := none }) (v := .int .u64 (n32 ctr)) rfl (by kernel_rfl) (by kernel_rfl) (by kernel_rfl) (fun _ _ _ h => h) (Or.inl ⟨by rfl, ?hyw5⟩) hHeldw ?_
  case hyw5 => (intro w hSw; go_simp)
  simp only [Act.put, List.setIfInBounds_toArray, List.set_cons_zero, List.set_cons_succ]
  refine wpAnyH_take (i := 6) (oi := { dst := some 20, op := Op.slice 24 (Operand.tmp 5) none none none, type := 28, pos := "law.go:27", after := #[], guard := none }) (v := ?vw6) rfl (by kernel_rfl) (by kernel_rfl) (by kernel_rfl) (fun _ _ _ h => h) (Or.inl ⟨by rfl, ?hyw6⟩) hHeldw ?_
  case hyw6 => (intro w hSw; go_simp; rfl)
  simp only [Act.put, List.setIfInBounds_toArray, List.set_cons_zero, List.set_cons_succ]
  refine wpAnyH_take (i := 7) (oi := { dst := some 21, op := Op.convert 28 9 (Operand.tmp 20), type := 9, pos := "law.go:27", after := #[{ on := 6, ground := Ground.data }], guard := none }) (v := .string ⟨nonce.toArray⟩) rfl (by kernel_rfl) (by kernel_rfl) (by kernel_rfl) (fun _ _ _ h => h) (Or.inl ⟨by rfl, ?hyw7⟩) hHeldw ?_
  case hyw7 => (exact fun w' hS => exec_string_of w' _ _ 28 9 5 (.tmp 20) rfl Tryd.underlying28 Tryd.underlying5 Tryd.underlying9 (w.heap.size + 1) 0 12 12 nonce rfl hnl.out hS.2.2.1)
  simp only [Act.put, List.setIfInBounds_toArray, List.set_cons_zero, List.set_cons_succ]
  refine wpAnyH_ready (rs := [8]) (by kernel_rfl) (by simp) ?_
  refine AllReadyH.cons (o := { dst := some 22, op := Op.call { callee := Callee.value (Operand.func 14), args := #[Operand.tmp 17, Operand.tmp 19, Operand.tmp 21], argTypes := #[9, 30, 9] }, type := 9, pos := "law.go:27", after := #[{ on := 3, ground := Ground.data }, { on := 5, ground := Ground.data }, { on := 7, ground := Ground.data }], guard := none }) rfl (fun Kc hcont => ?_) AllReadyH.nil
  go_simp
  refine (refCblock_any ⟨key.toArray⟩ ⟨nonce.toArray⟩ ctr (n32 ctr) _ hks.out hns.out (n32_nonneg _) hce.out).mono ?_
  rintro e w7 ⟨rfl, hb7⟩
  refine hcont.out _ _ ⟨hHeldw.1.below hb7 (Nat.lt_of_lt_of_le hlD hHeldw.2.2.2.size), hHeldw.2.1.below hb7 (Nat.lt_of_lt_of_le hlK hHeldw.2.2.2.size), hHeldw.2.2.1.below hb7 (Nat.lt_of_lt_of_le hlN hHeldw.2.2.2.size), hHeldw.2.2.2.trans (hb7.mono hHeldw.2.2.2.size)⟩ (fun hHeldw1 => ?_)
  clear hcont Kc
  refine wpAnyH_take (i := 9) (oi := { dst := some 23, op := Op.binOp BinOp.eql 9 (Operand.tmp 15) (Operand.tmp 22) 9, type := 4, pos := "law.go:27", after := #[{ on := 1, ground := Ground.data }, { on := 8, ground := Ground.data }], guard := none }) (v := ?vw9) rfl (by kernel_rfl) (by kernel_rfl) (by kernel_rfl) (fun _ _ _ h => h) (Or.inl ⟨by rfl, ?hyw9⟩) hHeldw1 ?_
  case hyw9 => (intro w hSw; go_simp; rfl)
  simp only [Act.put, List.setIfInBounds_toArray, List.set_cons_zero, List.set_cons_succ]
  refine wpAnyH_take (i := 10) (oi := { dst := some 6, op := Op.assign (Operand.tmp 23), type := 4, pos := "law.go:27", after := #[{ on := 9, ground := Ground.data }, { on := 8, ground := Ground.chain }, { on := 0, ground := Ground.phase }, { on := 1, ground := Ground.phase }, { on := 2, ground := Ground.phase }, { on := 3, ground := Ground.phase }, { on := 4, ground := Ground.phase }, { on := 5, ground := Ground.phase }, { on := 6, ground := Ground.phase }, { on := 7, ground := Ground.phase }, { on := 8, ground := Ground.phase }, { on := 9, ground := Ground.phase }], guard := none }) (v := ?vw10) rfl (by kernel_rfl) (by kernel_rfl) (by kernel_rfl) (fun _ _ _ h => h) (Or.inl ⟨by rfl, ?hyw10⟩) hHeldw1 ?_
  case hyw10 => (intro w hSw; go_simp; rfl)
  simp only [Act.put, List.setIfInBounds_toArray, List.set_cons_zero, List.set_cons_succ]
  refine wpAnyH_done (by kernel_rfl) ?_ _
  have hbel3 : Below w.heap.size w _ := hbel2.trans (hHeldw1.2.2.2.mono hbel2.size)
  have hdd : (D == cBlock key ctr nonce) = true := by rw [HDD.out]; simp
  have HEQ := hid hdd
  clear hHeldw hHeldw1 hb7 hbD hbK hbN hdd
  go_wp2
  go_ret
  exact ⟨by rw [HEQ.out]; rfl, hbel3⟩
end Go.Proofs.YtaenhghihhhikaaDoor
