/-
  The fixed facts of layer 1 (awake), and Cut, walked.
-/
import Derived.Test.YtghjndcbnnbloaaDoorKa
import Derived.Test.YtghjndcbnnbloaaDoorHw
namespace Go.Proofs.YtghjndcbnnbloaaDoor
open Go.RowKit

/-- string(b) under a guard that says yes. -/
theorem wpList_string_of_g {P : Program} (w : World) {ops : Array Oper} {rest : List Oper} {o : Oper} {a : Act} {Q : Exit → Act → World → Prop} (hw : Region.wanted o (yielded ops a.tmps) = true) (s d e : TypeId) (x : Operand)
    (ho : o.op = .convert s d x) (hs : P.underlying s = some (.slice e)) (he : P.underlying e = some (.int .u8)) (hd : P.underlying d = some .string)
    (b off n c : Nat) (bs : List UInt8) (hx : a.eval x = .slice (some ⟨b, off, none⟩) n c) (hn : bs.length = n) (hb : Bytes w b off bs)
    (h : wpList P ops Q rest (a.put o.dst (.string ⟨bs.toArray⟩)) w) : wpList P ops Q (o :: rest) a w := by
  subst hn
  refine wpList_step fun K hK => ?_
  rw [if_pos hw]
  have hr := run_convert_bytes_back (P := P) w s d e _ c bs hs he hd (cells_of_bytes hb)
  unfold Oper.wp execOp
  simp only [ho, hx, Sem.run_bind, Sem.run_pure, Result.andThen_ok, hr]
  exact hK _ _ h

set_option maxHeartbeats 400000 in
theorem cut_any (s : ByteArray) (n : Int) (w : World) (_hs : s.size ≤ maxLen) (h0 : 0 ≤ n) (hn : n ≤ 1000) :
    Calls Tryd.prog 11 #[.string s, .int .i64 n] w fun e w' => ∃ t : ByteArray, e = .returned (.string t) ∧ t.size ≤ n ∧ t.data.toList = s.data.toList.take n.toNat ∧ w = w' := by
  unfold maxLen at _hs
  obtain ⟨m, rfl⟩ := Int.eq_ofNat_of_zero_le h0
  by_cases hlt : m < s.size
  · go_enter Tryd.func11, Tryd.ntmps11
    go_wp2
    go_ret
    exact ⟨_, rfl, by simp; omega, by simp [ByteArray.data_extract], rfl⟩
  · go_enter Tryd.func11, Tryd.ntmps11
    go_wp2
    go_ret
    exact ⟨s, rfl, by omega, by rw [List.take_of_length_le]; rw [Int.toNat_natCast]; show s.size ≤ m; omega, rfl⟩

theorem one_new (w : World) (t : TypeId) (X : Array Value) : ∃ w3 : World, w3 = w.alloc (.cells X t) ∧ Below w.heap.size w w3 ∧ Blk w3 w.heap.size t X ∧ w3.heap.size = w.heap.size + 1 :=
  ⟨_, rfl, (Below.refl _ _).alloc (Nat.le_refl _) _, Blk.new w t X, by simp⟩
theorem strs_one {w : World} {g C : Nat} {s : ByteArray} {t : TypeId} (h : Blk w g t #[.string s]) : Strs w (some ⟨g, 0, none⟩) 1 C [s] :=
  ⟨rfl, (fun e => by cases e), (fun ad e j u hu => by
    injection e with e
    subst e
    match j, hu with
    | 0, hu => rw [addr_add, h.cell]; simpa using hu
    | j + 1, hu => simp at hu)⟩
theorem blk_new2 (w : World) (t t' : TypeId) (X Y : Array Value) : Blk ((w.alloc (.cells X t)).alloc (.cells Y t')) (w.heap.size + 1) t' Y := by simpa using Blk.new (w.alloc (.cells X t)) t' Y

set_option maxHeartbeats 1000000 in
set_option maxRecDepth 100000 in
theorem awake_any (w : World) (hK : KAt32 w) (hK2 : KAt64 w) :
    Calls Tryd.prog 10 #[] w fun e w' => e = .returned (.bool true) ∧ Below w.heap.size w w' := by
  obtain ⟨w1, hw1, hbel1, hb1, hsz1⟩ := one_new w 9 #[.string ⟨#[97, 98, 99]⟩]
  have HW1 := hid hw1
  have hsz1' : w.heap.size + 1 ≤ w1.heap.size := by omega
  clear hw1 hsz1
  go_enter Tryd.func10, Tryd.ntmps10
  go_wp2_with fail
  rw [← HW1.out]
  clear HW1
  refine (sum256_any 1 1 (some ⟨w.heap.size, 0, none⟩) [⟨#[97, 98, 99]⟩] w1 (strs_one hb1) (hK.below hbel1 hK.lt) (by omega) (by decide)).mono ?_
  rintro e w2 ⟨rfl, hbel2⟩
  have hD : (sha256 (flat [⟨#[97, 98, 99]⟩])).length = 32 := length_sha256 _
  have hDx : hexL (sha256 (flat [⟨#[97, 98, 99]⟩])) = abc256 := hex_abc256
  generalize sha256 (flat [⟨#[97, 98, 99]⟩]) = D at hD hDx ⊢
  have HD := hid hD
  have HDX := hid hDx
  clear hD hDx
  have hb12 : Below w.heap.size w w2 := hbel1.trans (hbel2.mono (by omega))
  have hsz2 := hb12.size
  obtain ⟨w3, hw3, hbel3, hb3, hsz3⟩ := one_new w2 9 #[.string ⟨#[97, 98, 99]⟩]
  have HW3 := hid hw3
  have hsz3' : w2.heap.size + 1 ≤ w3.heap.size := by omega
  clear hw3 hsz3
  go_wp2_with fail
  rw [← HW3.out]
  clear HW3
  have hb13 : Below w.heap.size w w3 := hb12.trans (hbel3.mono (by omega))
  refine (sum512_any 1 1 (some ⟨w2.heap.size, 0, none⟩) [⟨#[97, 98, 99]⟩] w3 (strs_one hb3) (hK2.below hb13 hK2.lt) (by omega) (by decide)).mono ?_
  rintro e w4 ⟨rfl, hbel4⟩
  have hE : (sha512 (flat [⟨#[97, 98, 99]⟩])).length = 64 := length_sha512 _
  have hEx : hexL (sha512 (flat [⟨#[97, 98, 99]⟩])) = abc512 := hex_abc512
  generalize sha512 (flat [⟨#[97, 98, 99]⟩]) = E at hE hEx ⊢
  have HE := hid hE
  have HEX := hid hEx
  clear hE hEx
  have hb14 : Below w.heap.size w w4 := hb13.trans (hbel4.mono (by omega))
  clear hb12 hbel2 hbel3 hb3 hbel4 hb13 hbel1 hb1
  have hsz4 := hb14.size
  go_wp2_with (first
    | (refine wpList_store_blk rfl 24 (.tmp 1) (.tmp 4) rfl w4.heap.size _ rfl rfl 24 _ ((Blk.new w4 24 _).alloc _) (size24 _ HD.out) (by simp [HD.out]) (oneCell_bytes32 _) ?_
       intro w5 h51 hg5
       have h52 := (blk_new2 w4 24 26 _ _).gro hg5 (by omega)
       have hb15 : Below w.heap.size w w5 := below_grown ((hb14.alloc hsz4 _).alloc (by simp; omega) _) hg5 (by simp; omega) hsz4
       clear hg5)
    | (refine wpList_store_blk rfl 26 (.tmp 2) (.tmp 6) rfl (w4.heap.size + 1) _ rfl rfl 26 _ h52 (size26 _ HE.out) (by simp [HE.out]) (oneCell_bytes64 _) ?_
       intro w6 h62 hg6
       have h61 := h51.gro hg6 (by omega)
       have hb16 : Below w.heap.size w w6 := below_grown hb15 hg6 hb15.size (by omega)
       clear hg6 h51 h52 hb15)
    | (refine wpList_string_of w6 rfl 28 9 5 (.tmp 7) rfl Tryd.underlying28 Tryd.underlying5 Tryd.underlying9 w4.heap.size 0 32 32 D rfl HD.out (bytes_of_list' h61) ?_))
  have hx := hex_any ⟨D.toArray⟩ w6 (by show D.toArray.size ≤ _; rw [List.size_toArray, HD.out]; omega)
  rw [show hexL (ByteArray.mk D.toArray).data.toList = abc256 from HDX.out, show (ByteArray.mk abc256.toArray) = ⟨#[98, 97, 55, 56, 49, 54, 98, 102, 56, 102, 48, 49, 99, 102, 101, 97, 52, 49, 52, 49, 52, 48, 100, 101, 53, 100, 97, 101, 50, 50, 50, 51, 98, 48, 48, 51, 54, 49, 97, 51, 57, 54, 49, 55, 55, 97, 57, 99, 98, 52, 49, 48, 102, 102, 54, 49, 102, 50, 48, 48, 49, 53, 97, 100]⟩ from rfl] at hx
  refine hx.mono ?_
  rintro e w7 ⟨rfl, hbel7⟩
  have h72 := h62.below hbel7 h62.lt
  have hb17 : Below w.heap.size w w7 := hb16.trans (hbel7.mono hb16.size)
  clear h62 h61 hbel7 hb16 hx
  go_wp2_with (refine wpList_string_of_g w7 rfl 28 9 5 (.tmp 12) rfl Tryd.underlying28 Tryd.underlying5 Tryd.underlying9 (w4.heap.size + 1) 0 64 64 E rfl HE.out (bytes_of_list' h72) ?_)
  have hx2 := hex_any ⟨E.toArray⟩ w7 (by show E.toArray.size ≤ _; rw [List.size_toArray, HE.out]; omega)
  rw [show hexL (ByteArray.mk E.toArray).data.toList = abc512 from HEX.out] at hx2
  refine hx2.mono ?_
  rintro e w8 ⟨rfl, hbel8⟩
  have hb18 : Below w.heap.size w w8 := hb17.trans (hbel8.mono hb17.size)
  clear hbel8 hb17 hx2
  go_wp2
  go_ret
  refine ⟨congrArg (fun b => Ending.returned (Value.bool b)) ?_, hb18⟩
  decide +kernel
end Go.Proofs.YtghjndcbnnbloaaDoor
