/-
  Texts of this claim.
-/
import Derived.Test.YtidjfinookikcaaDoorGQP
import Derived.Test.YtidjfinookikcaaDoorGQY
namespace Go.Proofs.YtidjfinookikcaaDoor
open Go.RowKit
def dfN (a b : List UInt8) : Nat → UInt8
  | 0 => UInt8.ofNat 0
  | j + 1 => dfN a b j ||| (a.getD j 0 ^^^ b.getD j 0)
theorem or_zero8 (x y : UInt8) : x ||| y = 0 ↔ x = 0 ∧ y = 0 := by
  rw [← UInt8.toNat_inj, ← UInt8.toNat_inj (a := x), ← UInt8.toNat_inj (a := y), UInt8.toNat_or]
  simp [Nat.or_eq_zero_iff]
theorem xor_zero8 (x y : UInt8) : x ^^^ y = 0 ↔ x = y := by
  constructor
  · intro h
    have : x ^^^ (x ^^^ y) = x ^^^ 0 := by rw [h]
    rw [← UInt8.xor_assoc, UInt8.xor_self, UInt8.zero_xor, UInt8.xor_zero] at this
    exact this.symm
  · rintro rfl; exact UInt8.xor_self
theorem dfN_zero (a b : List UInt8) (n : Nat) : dfN a b n = 0 ↔ ∀ j, j < n → a.getD j 0 = b.getD j 0 := by
  induction n with
  | zero => simp [dfN]
  | succ n ih =>
    simp only [dfN]
    rw [or_zero8, ih, xor_zero8]
    constructor
    · rintro ⟨h1, h2⟩ j hj
      rcases Nat.lt_or_ge j n with h | h
      · exact h1 j h
      · rw [show j = n by omega]; exact h2
    · intro h; exact ⟨fun j hj => h j (by omega), h n (by omega)⟩
theorem dfN_eq (a b : List UInt8) (h : a.length = b.length) : (dfN a b a.length == UInt8.ofNat 0) = (a == b) := by
  rw [Bool.eq_iff_iff, beq_iff_eq, beq_iff_eq]
  rw [show UInt8.ofNat 0 = 0 from rfl, dfN_zero]
  constructor
  · intro hj
    apply List.ext_getElem h
    intro i h1 h2
    have := hj i h1
    simpa [List.getD_eq_getElem?_getD, h1, h2] using this
  · rintro rfl; intros; rfl
def lensL (extra cipher : List UInt8) : List UInt8 := pwN (pwN (List.replicate 16 0) 0 (ofI64 (extra.length : Int)) 8) 8 (ofI64 (cipher.length : Int)) 8
def onceL (key nonce : List UInt8) : List UInt8 := (cBlock key (UInt32.ofNat 0) nonce).take 32
def macIn (cipher extra : List UInt8) : List UInt8 := extra ++ padL extra ++ cipher ++ padL cipher ++ lensL extra cipher
def tagL (key nonce cipher extra : List UInt8) : List UInt8 := sumL (onceL key nonce) (macIn cipher extra)
def sealL (key nonce text extra : List UInt8) : List UInt8 := cXor key (UInt32.ofNat 1) nonce text ++ tagL key nonce (cXor key (UInt32.ofNat 1) nonce text) extra
theorem length_lensL (a b : List UInt8) : (lensL a b).length = 16 := by simp [lensL, length_pwN]
theorem length_cBlk (key nonce : List UInt8) (c : UInt32) : (cBlock key c nonce).length = 64 := length_cBlock _ _ _
theorem length_onceL (key nonce : List UInt8) : (onceL key nonce).length = 32 := by simp [onceL, length_cBlock]
theorem length_padL (s : List UInt8) : (padL s).length < 16 := by simp [padL]; omega
theorem length_tagL (key nonce cipher extra : List UInt8) : (tagL key nonce cipher extra).length = 16 := length_sumL _ _
section
variable {P : Program} {T : Nat → Option AV} {H : Hp} {nm : Nat} {wr : Bool} {d : Option Tmp} {ty t t' : TypeId} {ps : String} {af : Array Edge} {gd : Option (Nat × Bool)} {x : Operand} {ms : Array (String × TypeId)}
/-- err == nil, of no error. -/
theorem op_isNil (ht : P.underlying t = some (.interface ms)) (hx : aev T x = some (.val .nilIface)) : OpSem P T H ⟨d, .binOp .eql t x (.const .nilIface) t', ty, ps, af, gd⟩ nm wr (.bool true) [] :=
  op_bin hx rfl fun E y1 y2 w h1 h2 => by
    rw [h1.val_inv, h2.val_inv]
    refine ⟨.bool true, ?_, .bool _⟩
    have e : (Op.equal t .nilIface .nilIface).run P w = .ok true w := by
      show (Op.equalIn (9999 + 1) t .nilIface .nilIface).run P w = .ok true w
      rw [Op.equalIn, Sem.run_bind, run_underlying ht, Result.andThen_ok]
      rfl
    have h3 : (eqGuard .eql t x (.const .nilIface) .nilIface .nilIface).run P w = .ok () w := by cases x <;> rfl
    have h4 : (binOp .eql t .nilIface .nilIface).run P w = .ok (.bool true) w := by
      show ((Op.equal t .nilIface .nilIface) >>= fun r => pure (Value.bool r) : Sem Value).run P w = _
      rw [Sem.run_bind, e]; rfl
    rw [Sem.run_bind, h3]; exact h4
end
set_option maxHeartbeats 400000 in
set_option maxRecDepth 100000 in
theorem same_ev (a b : List UInt8) (ha : a.length ≤ 1000000000) (hb : b.length ≤ 1000000000) : Meets Tryd.prog 65 [.str a, .str b] [] (.bool (a == b)) [] := by
 refine meets_of_ev (nt := 29) Tryd.func65 rfl rfl (Nat.le_of_ble_eq_true rfl) ?_
 refine .seq ?_
 refine .region ?_
 refine .q (op_assign rfl) trivial rfl ?_
 refine .nil ?_
 show Ev _ _ _ _ _
 refine .seq ?_
 refine .seq ?_
 refine .region ?_
 refine .q (op_move rfl) trivial rfl ?_
 refine .q (op_len_str Tryd.underlying9 rfl) trivial rfl ?_
 refine .q (op_move rfl) trivial rfl ?_
 refine .q (op_len_str Tryd.underlying9 rfl) trivial rfl ?_
 refine .q (op_cmpI rfl rfl rfl) trivial rfl ?_
 refine .nil ?_
 show Ev _ _ _ _ _
 refine .cond rfl (fun hc11 => ?_) (fun hc11 => ?_)
 ·simp only [decide_eq_true_eq, decide_eq_false_iff_not, beq_iff_eq, bne_iff_ne, ne_eq, beq_eq_false_iff_ne, bne_eq_false_iff_eq] at hc11
  refine .seq ?_
  refine .region ?_
  refine .q (op_assign rfl) trivial rfl ?_
  refine .nil ?_
  show Ev _ _ _ _ _
  refine .ret ?_
  show RetOk _ _ _ _ _ _ _
  first
   | exact ret1v rfl (.inl rfl) rfl (congrArg AV.bool (dfN_eq a b (by omega))) trivial
   | exact ret1v rfl (.inl rfl) rfl (by congr 1; symm; rw [beq_eq_false_iff_ne]; rintro rfl; simp at hc11) trivial
 ·simp only [decide_eq_true_eq, decide_eq_false_iff_not, beq_iff_eq, bne_iff_ne, ne_eq, beq_eq_false_iff_ne, bne_eq_false_iff_eq] at hc11
  refine .skip ?_
  show Ev _ _ _ _ _
  refine .seq ?_
  refine .region ?_
  refine .q (op_assign rfl) trivial rfl ?_
  refine .nil ?_
  show Ev _ _ _ _ _
  refine .seq ?_
  refine .seq ?_
  refine .region ?_
  refine .q (op_move rfl) trivial rfl ?_
  refine .q (op_len_str Tryd.underlying9 rfl) trivial rfl ?_
  refine .q (op_move rfl) trivial rfl ?_
  refine .nil ?_
  show Ev _ _ _ _ _
  refine .block ?_
  refine Ev.loop (ι := { j : Nat // j ≤ a.length }) (fun j => ⟨[(0, .str a), (1, .str b), (5, .u8 (dfN a b j.1)), (13, .i64 (a.length : Int)), (14, .i64 ((j.1 : Nat) : Int))], [], 1000⟩) (fun j => a.length - j.1) ⟨0, Nat.zero_le _⟩ (StLe.mk [] rfl rfl ⟨⟨_, rfl, by first | rfl | (simp only [AV.ren]; congr 1; omega), rfl⟩, ⟨_, rfl, by first | rfl | (simp only [AV.ren]; congr 1; omega), rfl⟩, ⟨_, rfl, by first | rfl | (simp only [AV.ren]; congr 1; omega), rfl⟩, ⟨_, rfl, by first | rfl | (simp only [AV.ren]; congr 1; omega), rfl⟩, ⟨_, rfl, by first | rfl | (simp only [AV.ren]; congr 1; omega), rfl⟩, trivial⟩ trivial) ?_
  rintro ⟨j, hj⟩
  dsimp only
  refine .seq ?_
  refine .region ?_
  refine .q (op_cmpI rfl rfl rfl) trivial rfl ?_
  refine .nil ?_
  show Ev _ _ _ _ _
  refine .seq ?_
  refine .cond rfl (fun hc15 => ?_) (fun hc15 => ?_)
  ·simp only [decide_eq_true_eq, decide_eq_false_iff_not, beq_iff_eq, bne_iff_ne, ne_eq, beq_eq_false_iff_ne, bne_eq_false_iff_eq] at hc15
   refine .skip ?_
   show Ev _ _ _ _ _
   refine .seq ?_
   refine .block ?_
   refine .seq ?_
   refine .region ?_
   refine .q (op_move rfl) trivial rfl ?_
   refine .q (op_assign rfl) trivial rfl ?_
   refine .nil ?_
   show Ev _ _ _ _ _
   refine .drawn [[], [], [], [1, 2], [], [], [4, 5], [1, 2, 3, 4, 5, 6], [0, 1, 2, 3, 4, 5, 6, 7], [0, 1, 2, 3, 4, 5, 6, 7, 8]] [] [] (by kernel_rfl) (by kernel_rfl) rfl ?_
   show DK _ [0, 1, 2, 3, 4, 5, 6, 7, 8, 9] _ _ _
   refine .q rfl (op_move rfl) trivial ?_
   refine .q rfl (op_move rfl) trivial ?_
   refine .q rfl (op_move rfl) trivial ?_
   refine .q rfl (op_index_str Tryd.underlying9 rfl rfl rfl (by first | omega | (simp only [AV.len]; omega) | (simp only [AV.len, List.length_set]; omega) | assumption | (simp [AV.len]; done))) trivial ?_
   refine .q rfl (op_move rfl) trivial ?_
   refine .q rfl (op_move rfl) trivial ?_
   refine .q rfl (op_index_str Tryd.underlying9 rfl rfl rfl (by first | omega | (simp only [AV.len]; omega) | (simp only [AV.len, List.length_set]; omega) | assumption | (simp [AV.len]; done))) trivial ?_
   refine .q rfl (op_bin8 rfl rfl rfl) trivial ?_
   refine .q rfl (op_bin8 rfl rfl rfl) trivial ?_
   refine .q rfl (op_assign rfl) trivial ?_
   refine .nil ?_
   show Ev _ _ _ _ _
   refine .region ?_
   refine .q (op_addI rfl rfl ⟨by omega, by omega⟩) trivial rfl ?_
   refine .q (op_move rfl) trivial rfl ?_
   refine .nil ?_
   exact ⟨⟨j + 1, by omega⟩, by show a.length - (j + 1) < a.length - j; omega, StLe.mk [] rfl rfl ⟨⟨_, rfl, by first | rfl | (simp only [AV.ren]; congr 1; omega), rfl⟩, ⟨_, rfl, by first | rfl | (simp only [AV.ren]; congr 1; omega), rfl⟩, ⟨_, rfl, by first | rfl | (simp only [AV.ren]; congr 1; omega), rfl⟩, ⟨_, rfl, by first | rfl | (simp only [AV.ren]; congr 1; omega), rfl⟩, ⟨_, rfl, by first | rfl | (simp only [AV.ren]; congr 1; omega), rfl⟩, trivial⟩ trivial⟩
  ·simp only [decide_eq_true_eq, decide_eq_false_iff_not, beq_iff_eq, bne_iff_ne, ne_eq, beq_eq_false_iff_ne, bne_eq_false_iff_eq] at hc15
   refine .exit ?_
   show Ev _ _ _ _ _
   have ej : j = a.length := by omega
   refine Ev.weak (st2 := ⟨[(0, .str a), (1, .str b), (5, .u8 (dfN a b (a.length))), (13, .i64 (a.length : Int)), (14, .i64 (((a.length) : Nat) : Int))], [], 1000⟩) (StLe.mk [] rfl rfl ⟨⟨_, rfl, by first | (simp only [AV.ren]; done) | (simp only [AV.ren]; rw [ej]; done) | rfl, rfl⟩, ⟨_, rfl, by first | (simp only [AV.ren]; done) | (simp only [AV.ren]; rw [ej]; done) | rfl, rfl⟩, ⟨_, rfl, by first | (simp only [AV.ren]; done) | (simp only [AV.ren]; rw [ej]; done) | rfl, rfl⟩, ⟨_, rfl, by first | (simp only [AV.ren]; done) | (simp only [AV.ren]; rw [ej]; done) | rfl, rfl⟩, ⟨_, rfl, by first | (simp only [AV.ren]; done) | (simp only [AV.ren]; rw [ej]; done) | rfl, rfl⟩, trivial⟩ trivial) ?_
   refine .seq ?_
   refine .region ?_
   refine .q (op_move rfl) trivial rfl ?_
   refine .q (op_bin8 rfl rfl rfl) trivial rfl ?_
   refine .q (op_assign rfl) trivial rfl ?_
   refine .nil ?_
   show Ev _ _ _ _ _
   refine .ret ?_
   show RetOk _ _ _ _ _ _ _
   first
    | exact ret1v rfl (.inl rfl) rfl (congrArg AV.bool (dfN_eq a b (by omega))) trivial
    | exact ret1v rfl (.inl rfl) rfl (by congr 1; symm; rw [beq_eq_false_iff_ne]; rintro rfl; simp at hc11) trivial
set_option maxHeartbeats 400000 in
set_option maxRecDepth 100000 in
theorem tagOf_ev (e : Nat) (key nonce cipher extra : List UInt8) (hk : key.length = 32) (hn : nonce.length = 12) (hC : cipher.length ≤ 1000000) (hE : extra.length ≤ 1000000) : Meets Tryd.prog 28 [.aggB key, .aggB nonce, .str cipher, .str extra] (HQ e) (.aggB (tagL key nonce cipher extra)) [] := by
 refine meets_of_ev (nt := 42) Tryd.func28 rfl rfl (Nat.le_of_ble_eq_true rfl) ?_
 refine .seq ?_
 refine .region ?_
 refine .a (op_boxRow rfl rfl) trivial rfl ?_
 refine .a (op_boxRow rfl rfl) trivial rfl ?_
 refine .a (op_allocRow zero71 rel_zero71 rfl) trivial rfl ?_
 refine .nil ?_
 show Ev _ _ _ _ _
 refine .seq ?_
 refine .region ?_
 refine .q (op_loadRow Tryd.underlying25 rfl sz25 rfl rfl rfl (hk)) trivial rfl ?_
 refine .q (op_loadRow Tryd.underlying61 rfl sz61 rfl rfl rfl (hn)) trivial rfl ?_
 refine .q (op_call (U := []) [] [] (cblock_ev e key nonce (UInt32.ofNat 0) hk hn) Tryd.func41 (by kernel_rfl) rfl rfl rfl (⟨⟨_, rfl, rfl, rfl⟩, ⟨_, rfl, rfl, rfl⟩, ⟨_, rfl, rfl, rfl⟩, trivial⟩) (⟨⟨_, _, rfl, rfl, rfl, rfl, id, rfl⟩, trivial⟩) (trivial) (⟨(fun h => by cases h), trivial⟩) rfl) trivial rfl ?_
 refine .as (.aggB (cBlock key (UInt32.ofNat 0) nonce)) rfl ?_
 refine .a (op_allocRow zero91 rel_zero91 rfl) trivial rfl ?_
 refine .w (op_storeRow sz91 rfl rfl rfl rfl rfl (by simp [AV.len, length_cBlk]) (by simp [AV.len, length_cBlk])) trivial rfl ?_
 refine .nil ?_
 show Ev _ _ _ _ _
 refine .seq ?_
 refine .region ?_
 refine .a (op_allocRow zero25 rel_zero25 rfl) trivial rfl ?_
 refine .nil ?_
 show Ev _ _ _ _ _
 refine .seq ?_
 refine .drawn [[], [], [0, 1]] [0, 1, 2] [2] (by kernel_rfl) (by kernel_rfl) rfl ?_
 show DK _ [0, 1, 2] _ _ _
 refine .q rfl (ap_slice_arr_hi Tryd.underlying25 inf5.sz rfl rfl (by first | omega | (simp [AV.len]; done)) (by decide) rfl (by first | omega | (simp [AV.len]; done))) trivial ?_
 refine .q rfl (ap_slice_arr_hi Tryd.underlying91 inf5.sz rfl rfl (by first | omega | (simp [AV.len, length_cBlk]; done)) (by decide) (bnd_some rfl rfl) (by first | omega | (simp [AV.len, length_cBlk]; done))) trivial ?_
 refine .a rfl (op_copy (q := 32) (c' := .aggB (onceL key nonce)) Tryd.underlying31 inf5.sz rfl rfl rfl (srcs_sl rfl rfl (by first | omega | (simp [AV.len]; done) | (simp [AV.len, length_cBlk]; done))) (by first | omega | (simp [AV.len]; done) | (simp [AV.len, length_cBlk]; done)) (by first | rfl | omega) (by simp only [AV.list, AV.parts, Option.getD_some, onceL, List.map_take, List.map_replicate, List.take_zero, List.nil_append, List.drop_replicate, List.drop_zero]; simp [List.take_take])) trivial rfl rfl ?_
 refine .nil ?_
 show Ev _ _ _ _ _
 refine .seq ?_
 refine .region ?_
 refine .a (op_allocRow zero71 rel_zero71 rfl) trivial rfl ?_
 refine .nil ?_
 show Ev _ _ _ _ _
 refine .seq ?_
 refine .region ?_
 refine .q (ap_slice_arr_hi Tryd.underlying71 inf5.sz rfl rfl (by first | omega | rfl | (simp [AV.len, length_pwN]; done)) (by decide) (bnd_some rfl rfl) (by first | omega | rfl | (simp [AV.len, length_pwN]; done))) trivial rfl ?_
 refine .q (op_move rfl) trivial rfl ?_
 refine .q (op_len_str Tryd.underlying9 rfl) trivial rfl ?_
 refine .q (op_conv Tryd.underlying3 Tryd.underlying26 rfl rfl) trivial rfl ?_
 refine .as (.u64 (ofI64 (extra.length : Int))) rfl ?_
 refine .a (op_call (U := [(1064, some ⟨.aggB (pwN (List.replicate 16 0) 0 (ofI64 (extra.length : Int)) 8), 71, true⟩)]) [(500, 1064)] [] (putWord_ev (List.replicate 16 0) 0 8 71 (ofI64 (extra.length : Int)) (by simp) (by omega)) Tryd.func42 (by kernel_rfl) rfl rfl rfl (⟨⟨_, rfl, rfl, rfl⟩, ⟨_, rfl, rfl, rfl⟩, trivial⟩) (⟨⟨_, _, rfl, rfl, rfl, rfl, id, rfl⟩, trivial⟩) (⟨⟨500, _, rfl, rfl, rfl, rfl, .inr ⟨rfl, _, rfl, rfl⟩⟩, trivial⟩) (⟨(fun _ => ⟨1064, _, rfl, rfl⟩), trivial⟩) rfl) trivial rfl ?_
 refine .nil ?_
 show Ev _ _ _ _ _
 refine .seq ?_
 refine .region ?_
 refine .q (op_slice_arr Tryd.underlying71 inf5.sz rfl rfl (by first | omega | rfl | (simp [AV.len, length_pwN]; done)) (by decide) (bnd_some rfl rfl) rfl (by first | omega | rfl | (simp [AV.len, length_pwN]; done)) (by first | omega | rfl | (simp [AV.len, length_pwN]; done))) trivial rfl ?_
 refine .as (.sl 1064 8 8 1) rfl ?_
 refine .q (op_move rfl) trivial rfl ?_
 refine .q (op_len_str Tryd.underlying9 rfl) trivial rfl ?_
 refine .q (op_conv Tryd.underlying3 Tryd.underlying26 rfl rfl) trivial rfl ?_
 refine .as (.u64 (ofI64 (cipher.length : Int))) rfl ?_
 refine .a (op_call (U := [(1064, some ⟨.aggB (lensL extra cipher), 71, true⟩)]) [(500, 1064)] [] (putWord_ev (pwN (List.replicate 16 0) 0 (ofI64 (extra.length : Int)) 8) 8 8 71 (ofI64 (cipher.length : Int)) (by simp [length_pwN]) (by omega)) Tryd.func42 (by kernel_rfl) rfl rfl rfl (⟨⟨_, rfl, rfl, rfl⟩, ⟨_, rfl, rfl, rfl⟩, trivial⟩) (⟨⟨_, _, rfl, rfl, rfl, rfl, id, rfl⟩, trivial⟩) (⟨⟨500, _, rfl, rfl, rfl, rfl, .inr ⟨rfl, _, rfl, rfl⟩⟩, trivial⟩) (⟨(fun _ => ⟨1064, _, rfl, rfl⟩), trivial⟩) rfl) trivial rfl ?_
 refine .nil ?_
 show Ev _ _ _ _ _
 refine .seq ?_
 refine .drawn [[], [], [], [2], [1, 2, 3], [], [1, 2, 3, 4, 5], [], [2, 3, 7], [1, 2, 3, 4, 5, 6, 7, 8], [], [10], [1, 2, 3, 4, 5, 6, 7, 8, 9, 10, 11], [0, 1, 2, 3, 4, 5, 6, 7, 8, 9, 10, 11, 12], [0, 1, 2, 3, 4, 5, 6, 7, 8, 9, 10, 11, 12, 13]] [0, 3, 8, 10, 11, 13, 14] [14] (by kernel_rfl) (by kernel_rfl) rfl ?_
 show DK _ [0, 1, 2, 3, 4, 5, 6, 7, 8, 9, 10, 11, 12, 13, 14] _ _ _
 refine .q rfl (op_loadRow Tryd.underlying25 rfl sz25 rfl rfl rfl (by simp [AV.len, length_onceL])) trivial ?_
 refine .q rfl (op_move rfl) trivial ?_
 refine .q rfl (op_move rfl) trivial ?_
 refine .q rfl (op_call (U := []) [] [] (padding_ev _ (by omega)) Tryd.func44 (by kernel_rfl) rfl rfl rfl (⟨⟨_, rfl, rfl, rfl⟩, trivial⟩) (trivial) (trivial) (trivial) rfl) trivial ?_
 refine .as (.str (padL extra)) rfl ?_
 refine .q rfl (op_addS rfl rfl (by have := length_padL extra; have := length_padL cipher; first | omega | (simp only [List.length_append, length_lensL]; omega))) trivial ?_
 refine .q rfl (op_move rfl) trivial ?_
 refine .q rfl (op_addS rfl rfl (by have := length_padL extra; have := length_padL cipher; first | omega | (simp only [List.length_append, length_lensL]; omega))) trivial ?_
 refine .q rfl (op_move rfl) trivial ?_
 refine .q rfl (op_call (U := []) [] [] (padding_ev _ (by omega)) Tryd.func44 (by kernel_rfl) rfl rfl rfl (⟨⟨_, rfl, rfl, rfl⟩, trivial⟩) (trivial) (trivial) (trivial) rfl) trivial ?_
 refine .as (.str (padL cipher)) rfl ?_
 refine .q rfl (op_addS rfl rfl (by have := length_padL extra; have := length_padL cipher; first | omega | (simp only [List.length_append, length_lensL]; omega))) trivial ?_
 refine .q rfl (ap_slice_arr_hi Tryd.underlying71 inf5.sz rfl rfl (by first | omega | (simp [AV.len, length_lensL]; done)) (by decide) rfl (by first | omega | (simp [AV.len, length_lensL]; done))) trivial ?_
 refine .q rfl (op_bytes_str Tryd.underlying31 Tryd.underlying5 Tryd.underlying9 rfl rfl rfl (by simp [length_lensL])) trivial ?_
 refine .as (.str (lensL extra cipher)) (by rw [List.drop_zero, List.take_of_length_le (by simp [length_lensL])]) ?_
 refine .q rfl (op_addS rfl rfl (by have := length_padL extra; have := length_padL cipher; first | omega | (simp only [List.length_append, length_lensL]; omega))) trivial ?_
 refine .q rfl (op_call (U := []) [] [] (sum_ev _ _ (length_onceL key nonce) (by have := length_padL extra; have := length_padL cipher; simp only [List.length_append, length_lensL]; omega)) Tryd.func43 (by kernel_rfl) rfl rfl rfl (⟨⟨_, rfl, rfl, rfl⟩, ⟨_, rfl, rfl, rfl⟩, trivial⟩) (trivial) (trivial) (trivial) rfl) trivial ?_
 refine .as (.aggB (tagL key nonce cipher extra)) rfl ?_
 refine .w rfl (op_storeRow sz71 rfl rfl rfl rfl rfl (by first | rfl | simp [AV.len, length_tagL]) (by first | rfl | simp [AV.len, length_tagL])) trivial rfl rfl ?_
 refine .nil ?_
 show Ev _ _ _ _ _
 refine .ret ?_
 show RetOk _ _ _ _ _ _ _
 exact retc1 rfl (.inl rfl) ⟨_, _, _, _, rfl, rfl, rfl, rfl, (by simp only [AV.len, length_tagL]), Tryd.underlying71, rfl, sz71⟩ trivial
set_option maxRecDepth 100000 in
theorem seal_ev (e : Nat) (key nonce text extra : List UInt8) (hk : key.length = 32) (hn : nonce.length = 12) (hT : text.length ≤ 1000000) (hE : extra.length ≤ 1000000) : Meets Tryd.prog 17 [.aggB key, .aggB nonce, .str text, .str extra] (HQ e) (.str (sealL key nonce text extra)) [] := by
 refine meets_of_ev (nt := 24) Tryd.func17 rfl rfl (Nat.le_of_ble_eq_true rfl) ?_
 refine .seq ?_
 refine .region ?_
 refine .a (op_boxRow rfl rfl) trivial rfl ?_
 refine .a (op_boxRow rfl rfl) trivial rfl ?_
 refine .q (op_assign rfl) trivial rfl ?_
 refine .nil ?_
 show Ev _ _ _ _ _
 refine .seq ?_
 refine .region ?_
 refine .q (op_loadRow Tryd.underlying25 rfl sz25 rfl rfl rfl (hk)) trivial rfl ?_
 refine .q (op_loadRow Tryd.underlying61 rfl sz61 rfl rfl rfl (hn)) trivial rfl ?_
 refine .q (op_move rfl) trivial rfl ?_
 refine .q (op_call (U := []) [] [] (cxor_ev e key nonce text (UInt32.ofNat 1) hk hn hT) Tryd.func27 (by kernel_rfl) rfl rfl rfl (⟨⟨_, rfl, rfl, rfl⟩, ⟨_, rfl, rfl, rfl⟩, ⟨_, rfl, rfl, rfl⟩, ⟨_, rfl, rfl, rfl⟩, trivial⟩) (⟨⟨_, _, rfl, rfl, rfl, rfl, id, rfl⟩, trivial⟩) (trivial) (⟨(fun h => by cases h), trivial⟩) rfl) trivial rfl ?_
 refine .as (.str (cXor key (UInt32.ofNat 1) nonce text)) rfl ?_
 refine .q (op_assign rfl) trivial rfl ?_
 refine .nil ?_
 show Ev _ _ _ _ _
 refine .seq ?_
 refine .region ?_
 refine .q (op_loadRow Tryd.underlying25 rfl sz25 rfl rfl rfl (hk)) trivial rfl ?_
 refine .q (op_loadRow Tryd.underlying61 rfl sz61 rfl rfl rfl (hn)) trivial rfl ?_
 refine .q (op_move rfl) trivial rfl ?_
 refine .q (op_move rfl) trivial rfl ?_
 refine .q (op_call (U := []) [] [] (tagOf_ev e key nonce _ extra hk hn (by rw [length_cXor]; omega) hE) Tryd.func28 (by kernel_rfl) rfl rfl rfl (⟨⟨_, rfl, rfl, rfl⟩, ⟨_, rfl, rfl, rfl⟩, ⟨_, rfl, rfl, rfl⟩, ⟨_, rfl, rfl, rfl⟩, trivial⟩) (⟨⟨_, _, rfl, rfl, rfl, rfl, id, rfl⟩, trivial⟩) (trivial) (⟨(fun h => by cases h), trivial⟩) rfl) trivial rfl ?_
 refine .as (.aggB (tagL key nonce (cXor key (UInt32.ofNat 1) nonce text) extra)) rfl ?_
 refine .a (op_allocRow zero71 rel_zero71 rfl) trivial rfl ?_
 refine .w (op_storeRow sz71 rfl rfl rfl rfl rfl (by first | rfl | simp [AV.len, length_tagL]) (by first | rfl | simp [AV.len, length_tagL])) trivial rfl ?_
 refine .nil ?_
 show Ev _ _ _ _ _
 refine .seq ?_
 refine .region ?_
 refine .q (op_move rfl) trivial rfl ?_
 refine .q (ap_slice_arr_hi Tryd.underlying71 inf5.sz rfl rfl (by first | omega | (simp [AV.len, length_tagL]; done)) (by decide) rfl (by first | omega | (simp [AV.len, length_tagL]; done))) trivial rfl ?_
 refine .q (op_bytes_str Tryd.underlying31 Tryd.underlying5 Tryd.underlying9 rfl rfl rfl (by simp [length_tagL])) trivial rfl ?_
 refine .as (.str (tagL key nonce (cXor key (UInt32.ofNat 1) nonce text) extra)) (by rw [List.drop_zero, List.take_of_length_le (by simp [length_tagL])]) ?_
 refine .q (op_addS rfl rfl (by rw [length_cXor, length_tagL]; omega)) trivial rfl ?_
 refine .q (op_assign rfl) trivial rfl ?_
 refine .nil ?_
 show Ev _ _ _ _ _
 refine .ret ?_
 show RetOk _ _ _ _ _ _ _
 exact ret1v rfl (.inl rfl) rfl rfl trivial
set_option maxRecDepth 100000 in
theorem open_ok (e : Nat) (key nonce s extra : List UInt8) (hk : key.length = 32) (hn : nonce.length = 12) (hS : s.length ≤ 1000000) (hE : extra.length ≤ 1000000) (h16 : 16 ≤ s.length) (hTag : s.drop (s.length - 16) = tagL key nonce (s.take (s.length - 16)) extra) : Meets Tryd.prog 46 [.aggB key, .aggB nonce, .str s, .str extra] (HQ e) (.tup [.str (cXor key (UInt32.ofNat 1) nonce (s.take (s.length - 16))), .val .nilIface]) [] := by
 refine meets_of_ev (nt := 42) Tryd.func46 rfl rfl (Nat.le_of_ble_eq_true rfl) ?_
 refine .seq ?_
 refine .region ?_
 refine .a (op_boxRow rfl rfl) trivial rfl ?_
 refine .a (op_boxRow rfl rfl) trivial rfl ?_
 refine .q (op_assign rfl) trivial rfl ?_
 refine .q (op_assign rfl) trivial rfl ?_
 refine .nil ?_
 show Ev _ _ _ _ _
 refine .seq ?_
 refine .seq ?_
 refine .region ?_
 refine .q (op_move rfl) trivial rfl ?_
 refine .q (op_len_str Tryd.underlying9 rfl) trivial rfl ?_
 refine .q (op_cmpI rfl rfl rfl) trivial rfl ?_
 refine .nil ?_
 show Ev _ _ _ _ _
 refine .cond_false rfl (by simp; omega) ?_
 refine .skip ?_
 show Ev _ _ _ _ _
 refine .seq ?_
 refine .drawn [[], [], [1], [1, 2], [0, 1, 2, 3], [], [], [6], [6, 7], [5, 6, 7, 8], [0, 1, 2, 3, 4], [0, 1, 2, 3, 4, 5, 6, 7, 8, 9, 10]] [] [] (by kernel_rfl) (by kernel_rfl) rfl ?_
 show DK _ [0, 1, 2, 3, 4, 5, 6, 7, 8, 9, 10, 11] _ _ _
 refine .q rfl (op_move rfl) trivial ?_
 refine .q rfl (op_move rfl) trivial ?_
 refine .q rfl (op_len_str Tryd.underlying9 rfl) trivial ?_
 refine .q rfl (op_subI rfl rfl ⟨by omega, by omega⟩) trivial ?_
 refine .q rfl (ap_slice_str_hi Tryd.underlying9 rfl (bnd_some rfl (l := s.length - 16) (by omega)) (by omega)) trivial ?_
 refine .q rfl (op_move rfl) trivial ?_
 refine .q rfl (op_move rfl) trivial ?_
 refine .q rfl (op_len_str Tryd.underlying9 rfl) trivial ?_
 refine .q rfl (op_subI rfl rfl ⟨by omega, by omega⟩) trivial ?_
 refine .q rfl (ap_slice_str_lo Tryd.underlying9 rfl (bnd_some rfl (l := s.length - 16) (by omega)) (by omega)) trivial ?_
 refine .q rfl (op_assign rfl) trivial ?_
 refine .q rfl (op_assign rfl) trivial ?_
 refine .nil ?_
 show Ev _ _ _ _ _
 refine .seq ?_
 refine .region ?_
 refine .q (op_loadRow Tryd.underlying25 rfl sz25 rfl rfl rfl (hk)) trivial rfl ?_
 refine .q (op_loadRow Tryd.underlying61 rfl sz61 rfl rfl rfl (hn)) trivial rfl ?_
 refine .q (op_move rfl) trivial rfl ?_
 refine .q (op_move rfl) trivial rfl ?_
 refine .q (op_call (U := []) [] [] (tagOf_ev e key nonce (s.take (s.length - 16)) extra hk hn (by simp; omega) hE) Tryd.func28 (by kernel_rfl) rfl rfl rfl (⟨⟨_, rfl, rfl, rfl⟩, ⟨_, rfl, rfl, rfl⟩, ⟨_, rfl, rfl, rfl⟩, ⟨_, rfl, rfl, rfl⟩, trivial⟩) (⟨⟨_, _, rfl, rfl, rfl, rfl, id, rfl⟩, trivial⟩) (trivial) (⟨(fun h => by cases h), trivial⟩) rfl) trivial rfl ?_
 refine .as (.aggB (tagL key nonce (s.take (s.length - 16)) extra)) rfl ?_
 refine .a (op_allocRow zero71 rel_zero71 rfl) trivial rfl ?_
 refine .w (op_storeRow sz71 rfl rfl rfl rfl rfl (by first | rfl | simp [AV.len, length_tagL]) (by first | rfl | simp [AV.len, length_tagL])) trivial rfl ?_
 refine .nil ?_
 show Ev _ _ _ _ _
 refine .seq ?_
 refine .seq ?_
 refine .region ?_
 refine .q (op_move rfl) trivial rfl ?_
 refine .q (ap_slice_arr_hi Tryd.underlying71 inf5.sz rfl rfl (by first | omega | (simp [AV.len, length_tagL]; done)) (by decide) rfl (by first | omega | (simp [AV.len, length_tagL]; done))) trivial rfl ?_
 refine .q (op_bytes_str Tryd.underlying31 Tryd.underlying5 Tryd.underlying9 rfl rfl rfl (by simp [length_tagL])) trivial rfl ?_
 refine .as (.str (tagL key nonce (s.take (s.length - 16)) extra)) (by rw [List.drop_zero, List.take_of_length_le (by simp [length_tagL])]) ?_
 refine .q (op_call (U := []) [] [] (same_ev _ _ (by simp; omega) (by simp [length_tagL])) Tryd.func65 (by kernel_rfl) rfl rfl rfl (⟨⟨_, rfl, rfl, rfl⟩, ⟨_, rfl, rfl, rfl⟩, trivial⟩) (trivial) (trivial) (trivial) rfl) trivial rfl ?_
 refine .q (op_notB rfl) trivial rfl ?_
 refine .nil ?_
 show Ev _ _ _ _ _
 refine .cond_false rfl (by simp [hTag]) ?_
 refine .skip ?_
 show Ev _ _ _ _ _
 refine .seq ?_
 refine .region ?_
 refine .q (op_loadRow Tryd.underlying25 rfl sz25 rfl rfl rfl (hk)) trivial rfl ?_
 refine .q (op_loadRow Tryd.underlying61 rfl sz61 rfl rfl rfl (hn)) trivial rfl ?_
 refine .q (op_move rfl) trivial rfl ?_
 refine .q (op_call (U := []) [] [] (cxor_ev e key nonce _ (UInt32.ofNat 1) hk hn (by simp; omega)) Tryd.func27 (by kernel_rfl) rfl rfl rfl (⟨⟨_, rfl, rfl, rfl⟩, ⟨_, rfl, rfl, rfl⟩, ⟨_, rfl, rfl, rfl⟩, ⟨_, rfl, rfl, rfl⟩, trivial⟩) (⟨⟨_, _, rfl, rfl, rfl, rfl, id, rfl⟩, trivial⟩) (trivial) (⟨(fun h => by cases h), trivial⟩) rfl) trivial rfl ?_
 refine .as (.str (cXor key (UInt32.ofNat 1) nonce (s.take (s.length - 16)))) rfl ?_
 refine .q (op_assign rfl) trivial rfl ?_
 refine .q (op_assign rfl) trivial rfl ?_
 refine .nil ?_
 show Ev _ _ _ _ _
 refine .ret ?_
 show RetOk _ _ _ _ _ _ _
 exact ret2v rfl (.inl rfl) rfl rfl rfl rfl trivial
end Go.Proofs.YtidjfinookikcaaDoor
