/-
  Texts of this claim.
-/
import Derived.Test.YtdpdmgbdipokdaaDoorGX2
import Derived.Test.YtdpdmgbdipokdaaDoorGTE
import Derived.Test.YtdpdmgbdipokdaaDoorGTB
namespace Go.Proofs.YtdpdmgbdipokdaaDoor
open Go.RowKit
section
variable {P : Program} {T : Nat → Option AV} {H : Hp} {nm : Nat} {wr : Bool} {d : Option Tmp} {ty : TypeId} {ps : String} {af : Array Edge} {gd : Option (Nat × Bool)} {t t' e : TypeId} {x y : Operand} {b o n i : Nat}
theorem op_xorI {n m : Nat} (hx : aev T x = some (.i64 n)) (hy : aev T y = some (.i64 m)) (h : n < 2 ^ 62 ∧ m < 2 ^ 62) : OpSem P T H ⟨d, .binOp .xor t x y t', ty, ps, af, gd⟩ nm wr (.i64 ((n ^^^ m : Nat) : Int)) [] :=
  op_bin hx hy fun E y1 y2 w h1 h2 => by
    rw [h1.i64_inv, h2.i64_inv]
    refine ⟨.int .i64 (IntKind.i64.wrap ((BitVec.ofInt 64 n ^^^ BitVec.ofInt 64 m).toNat : Int)), rfl, ?_⟩
    have e : (BitVec.ofInt 64 n ^^^ BitVec.ofInt 64 m).toNat = n ^^^ m := by
      rw [BitVec.toNat_xor, BitVec.toNat_ofInt, BitVec.toNat_ofInt]
      congr 1 <;> omega
    have hle : n ^^^ m < 2 ^ 62 := Nat.xor_lt_two_pow h.1 h.2
    rw [e, wrap_in ⟨by omega, by omega⟩]
    exact .i64 _
theorem u8_62 (a : UInt8) : a.toNat < 2 ^ 62 := Nat.lt_trans a.toNat_lt (by decide)
theorem op_xorB {p q : UInt8} (hx : aev T x = some (.i64 (p.toNat : Int))) (hy : aev T y = some (.i64 (q.toNat : Int))) : OpSem P T H ⟨d, .binOp .xor t x y t', ty, ps, af, gd⟩ nm wr (.i64 ((p ^^^ q).toNat : Int)) [] := by
  rw [UInt8.toNat_xor]
  exact op_xorI hx hy ⟨u8_62 p, u8_62 q⟩
/-- An element of an array whose place is a byte. -/
theorem op_idx_arr8 {q : UInt8} (ht : P.underlying t = some (.array n e)) (hz : (P.info? e).map (·.size) = some 1) (hx : aev T x = some (.ptr b o)) (hy : aev T y = some (.u8 q)) (hlt : q.toNat < n) :
    OpSem P T H ⟨d, .indexAddr t x y, ty, ps, af, gd⟩ nm wr (.ptr b (o + q.toNat)) [] :=
  .quiet fun E a w h => by
    have h2 := (h y mem22 _ hy).u8_inv
    obtain ⟨l, s, h1, h3⟩ := (h x mem21 _ hx).ptr_inv
    refine ⟨.pointer (some ⟨l, o + q.toNat, none⟩), ?_, .ptr _ _ _ _ h1⟩
    have hin : (0 : Int) ≤ (q.toNat : Int) ∧ (q.toNat : Int) < (n : Int) := by omega
    simp [execOp, h2, h3, Instr.indexAt, Instr.sureAddr, asIntOf, run_underlying ht, hin, run_sizeOf_is hz, add_at, hlt]
theorem op_idx_arrO {j : Int} (ht : P.underlying t = some (.array n e)) (hz : (P.info? e).map (·.size) = some 1) (hx : aev T x = some (.ptr b o)) (hy : aev T y = some (.i64 j)) (hj : j = (i : Int)) (hlt : i < n) :
    OpSem P T H ⟨d, .indexAddr t x y, ty, ps, af, gd⟩ nm wr (.ptr b (o + i)) [] := by
  have := op_indexAddr_arr (H := H) (nm := nm) (wr := wr) (d := d) (ty := ty) (ps := ps) (af := af) (gd := gd) ht hz hx hy hj hlt
  rwa [Nat.mul_one] at this
end
/-- A cipher's row: its box, its rounds, its keys. -/
def ciC (bx : List UInt8) (r : Int) (ks : List UInt8) : AV := .agg (bx.map .u8 ++ (.i64 r :: ks.map .u8))
section
variable {bx ks : List UInt8} {r : Int}
theorem ci_list : (ciC bx r ks).list = bx.map .u8 ++ (.i64 r :: ks.map .u8) := rfl
theorem ci_len (h : bx.length = 512) : (ciC bx r ks).len = 513 + ks.length := by
  show (bx.map AV.u8 ++ (AV.i64 r :: ks.map AV.u8)).length = _
  simp; omega
theorem ci_bx (h : bx.length = 512) {i : Nat} (hi : i < 512) : (ciC bx r ks).nth i = some (.u8 (bx.getD i 0)) := by
  show (bx.map AV.u8 ++ (.i64 r :: ks.map .u8))[i]? = _
  rw [List.getElem?_append_left (by simp; omega)]
  exact map_nth (by omega)
theorem ci_r (h : bx.length = 512) : (ciC bx r ks).nth 512 = some (.i64 r) := by
  show (bx.map AV.u8 ++ (.i64 r :: ks.map .u8))[512]? = _
  rw [List.getElem?_append_right (by simp; omega)]
  simp [h]
theorem ci_drop (h : bx.length = 512) (i : Nat) : (ciC bx r ks).list.drop (513 + i) = (ks.drop i).map .u8 := by
  rw [ci_list, List.drop_append, List.drop_eq_nil_of_le (by simp; omega), List.length_map, h, List.nil_append, show 513 + i - 512 = i + 1 by omega, List.drop_succ_cons, List.map_drop]
theorem ci_key (h : bx.length = 512) (i : Nat) : (kqL ks i).map .u8 = ((ciC bx r ks).list.drop (513 + i * 16)).take 16 := by
  rw [ci_drop h, kqL, List.map_take, Nat.mul_comm]
theorem ci_lt (h : bx.length = 512) (hk : ks.length = 240) {i : Nat} (hi : i < 753) : i < (ciC bx r ks).len := by rw [ci_len h]; omega
theorem ci_take (h : bx.length = 512) (i : Nat) : (ciC bx r ks).list.take (513 + i) = bx.map .u8 ++ (.i64 r :: (ks.take i).map .u8) := by
  rw [ci_list, List.take_append, List.take_of_length_le (by simp; omega), List.length_map, h, show 513 + i - 512 = i + 1 by omega, List.take_succ_cons, List.map_take]
/-- The zero value of a cipher. -/
theorem rel_zeroCi (m n : Nat) : Rel Emb.nil (ciC (List.replicate m 0) 0 (List.replicate n 0)) (.agg (Array.replicate m (.int .u8 0) ++ (#[.int .i64 0] ++ Array.replicate n (.int .u8 0)))) := by
  refine .agg _ _ _ rfl (by simp; omega) (fun x hx => ?_) fun i x y hx hy => ?_
  · simp only [List.mem_append, List.mem_map, List.mem_cons, List.mem_replicate] at hx
    rcases hx with ⟨q, _, rfl⟩ | rfl | ⟨q, _, rfl⟩ <;> rfl
  · rw [List.map_replicate, List.map_replicate] at hx
    by_cases h1 : i < m
    · rw [List.getElem?_append_left (by simpa using h1), List.getElem?_replicate, if_pos h1] at hx
      rw [Array.getElem?_append_left (by simpa using h1), Array.getElem?_replicate, if_pos h1] at hy
      injection hx with hx; injection hy with hy; subst hx; subst hy; exact .u8 0
    · rw [List.getElem?_append_right (by simp; omega), List.length_replicate] at hx
      rw [Array.getElem?_append_right (by simp; omega), Array.size_replicate] at hy
      by_cases h2 : i = m
      · subst h2
        rw [Array.getElem?_append_left (by simp), Nat.sub_self] at hy
        simp at hx
        injection hy with hy
        subst hx; subst hy; exact .i64 0
      · rw [show i - m = (i - (m + 1)) + 1 by omega, List.getElem?_cons_succ, List.getElem?_replicate] at hx
        rw [Array.getElem?_append_right (by simp; omega), Array.getElem?_replicate] at hy
        have e : i - m - (#[Value.int .i64 0] : Array Value).size = i - (m + 1) := by simp; omega
        rw [e] at hy
        split at hx
        · rename_i h3
          rw [if_pos h3] at hy
          injection hx with hx; injection hy with hy; subst hx; subst hy; exact .u8 0
        · cases hx
theorem ren_u8 (f : Nat → Nat) (l : List UInt8) : AV.renL f (l.map .u8) = l.map .u8 := by
  rw [renL_eq, List.map_map]; rfl
theorem names_u8 (l : List UInt8) (m : List AV) (h : AV.namesL m = []) : AV.namesL (l.map .u8 ++ m) = [] := by
  induction l with
  | nil => exact h
  | cons x l ih => rw [List.map_cons, List.cons_append, AV.namesL, ih]; rfl
theorem ren_ci (f : Nat → Nat) : (ciC bx r ks).ren f = ciC bx r ks := by
  show AV.agg (AV.renL f (bx.map .u8 ++ (.i64 r :: ks.map .u8))) = _
  rw [renL_eq, List.map_append, List.map_cons, List.map_map, List.map_map]; rfl
theorem names_ci : (ciC bx r ks).names = [] := names_u8 bx _ (by
  have := names_u8 ks [] rfl
  rw [List.append_nil] at this
  rw [AV.namesL, this]; rfl)
theorem nm_ci (L : List (Nat × Nat)) : nmOk L (ciC bx r ks).names = true := by rw [names_ci]; rfl
theorem nmC_ci (L : List (Nat × Nat)) : nmOkC L (ciC bx r ks).names = true := by rw [names_ci]; rfl
theorem len_parts {l : List UInt8} : (AV.aggB l).list = l.map .u8 := rfl
end
end Go.Proofs.YtdpdmgbdipokdaaDoor
namespace Go.Proofs.YtdpdmgbdipokdaaDoor
open Go.RowKit
theorem rotA (_b : UInt8) (n : Nat) (h : 0 < n ∧ n < 8) : (ofI64 (n : Int) &&& UInt64.ofNat 7).toNat = n ∧ (UInt64.ofNat 8 - (ofI64 (n : Int) &&& UInt64.ofNat 7)).toNat = 8 - n := by
  have e : ofI64 (n : Int) &&& UInt64.ofNat 7 = UInt64.ofNat n := by
    rcases (by omega : n = 1 ∨ n = 2 ∨ n = 3 ∨ n = 4 ∨ n = 5 ∨ n = 6 ∨ n = 7) with h | h | h | h | h | h | h <;> subst h <;> rfl
  rw [e]
  rcases (by omega : n = 1 ∨ n = 2 ∨ n = 3 ∨ n = 4 ∨ n = 5 ∨ n = 6 ∨ n = 7) with h | h | h | h | h | h | h <;> subst h <;> exact ⟨rfl, rfl⟩
theorem getD_set_same {α : Type} (l : List α) (i : Nat) (v z : α) (h : i < l.length) : (l.set i v).getD i z = v := by
  simp [List.getD_eq_getElem?_getD, h]
/-- A column. -/
def colL (a : List UInt8) (c : Nat) : List UInt8 := [a.getD (4 * c) 0, a.getD (4 * c + 1) 0, a.getD (4 * c + 2) 0, a.getD (4 * c + 3) 0]
theorem length_colL (a : List UInt8) (c : Nat) : (colL a c).length = 4 := rfl
theorem colL_get (a : List UInt8) (c k : Nat) (h : k < 4) : (colL a c).getD k 0 = a.getD (4 * c + k) 0 := by
  rcases (by omega : k = 0 ∨ k = 1 ∨ k = 2 ∨ k = 3) with h | h | h | h <;> subst h <;> rfl
theorem take4_eq (w : List UInt8) (h : w.length = 4) : w = [w.getD 0 0, w.getD 1 0, w.getD 2 0, w.getD 3 0] := by
  match w, h with
  | [_, _, _, _], _ => rfl
theorem col_eq (a : List UInt8) (c : Nat) (ha : a.length = 16) (hc : c < 4) : ((mpU (mxF a) a (4 * c)).drop (4 * c)).take 4 = colL a c := by
  have hl := length_mpU (mxF a) a (4 * c) (by omega)
  rw [take4_eq (((mpU (mxF a) a (4 * c)).drop (4 * c)).take 4) (by rw [List.length_take, List.length_drop, hl]; omega)]
  have e : ∀ k, k < 4 → (((mpU (mxF a) a (4 * c)).drop (4 * c)).take 4).getD k 0 = a.getD (4 * c + k) 0 := fun k hk => by
    rw [← mpU_get (mxF a) a (4 * c) (4 * c + k) (by omega)]
    simp [List.getD_eq_getElem?_getD, hk]
  rw [e 0 (by omega), e 1 (by omega), e 2 (by omega), e 3 (by omega)]; rfl
theorem mxF_step (a : List UInt8) (c j : Nat) (_hc : c < 4) (hj : j < 4) : (mpU (mxF a) a (4 * c + j)).getD (4 * c + j) 0 ^^^ (colA a c ^^^ dbl ((colL a c).getD j 0 ^^^ (colL a c).getD ((j + 1) % 4) 0)) = mxF a (4 * c + j) := by
  rw [mpU_get _ _ _ _ (Nat.le_refl _), colL_get a c j hj, colL_get a c _ (Nat.mod_lt _ (by decide))]
  unfold mxF
  rw [show (4 * c + j) / 4 = c by omega, show (4 * c + j) % 4 = j by omega]
set_option maxRecDepth 100000 in
theorem double_ev (b : UInt8) : Meets Tryd.prog 34 [.u8 b] [] (.u8 (dbl b)) [] := by
 refine meets_of_ev (nt := 9) Tryd.func34 rfl rfl (Nat.le_of_ble_eq_true rfl) ?_
 refine .seq ?_
 refine .region ?_
 refine .q (op_assign rfl) trivial rfl ?_
 refine .nil ?_
 show Ev _ _ _ _ _
 refine .seq ?_
 refine .region ?_
 refine .q (op_move rfl) trivial rfl ?_
 refine .q (op_shl8 (n := 1) rfl rfl rfl (by decide)) trivial rfl ?_
 refine .q (op_move rfl) trivial rfl ?_
 refine .q (op_shr8 (n := 7) rfl rfl rfl (by decide)) trivial rfl ?_
 refine .q (op_bin8 rfl rfl rfl) trivial rfl ?_
 refine .q (op_bin8 rfl rfl rfl) trivial rfl ?_
 refine .q (op_assign rfl) trivial rfl ?_
 refine .nil ?_
 show Ev _ _ _ _ _
 refine .ret ?_
 show RetOk _ _ _ _ _ _ _
 exact ret1v rfl (.inl rfl) rfl rfl trivial
set_option maxRecDepth 100000 in
theorem rot_ev (b : UInt8) (n : Nat) (h : 0 < n ∧ n < 8) : Meets Tryd.prog 39 [.u8 b, .i64 (n : Int)] [] (.u8 (rot8 b n)) [] := by
 refine meets_of_ev (nt := 17) Tryd.func39 rfl rfl (Nat.le_of_ble_eq_true rfl) ?_
 refine .seq ?_
 refine .region ?_
 refine .q (op_assign rfl) trivial rfl ?_
 refine .nil ?_
 show Ev _ _ _ _ _
 refine .seq ?_
 refine .region ?_
 refine .q (op_move rfl) trivial rfl ?_
 refine .q (op_conv Tryd.underlying3 Tryd.underlying59 rfl rfl) trivial rfl ?_
 refine .q (op_bin64 rfl rfl rfl) trivial rfl ?_
 refine .q (op_assign rfl) trivial rfl ?_
 refine .nil ?_
 show Ev _ _ _ _ _
 refine .seq ?_
 refine .region ?_
 refine .q (op_move rfl) trivial rfl ?_
 refine .q (op_move rfl) trivial rfl ?_
 refine .q (op_shl8 (n := n) rfl rfl (congrArg some (rotA b n h).1) (by omega)) trivial rfl ?_
 refine .q (op_move rfl) trivial rfl ?_
 refine .q (op_move rfl) trivial rfl ?_
 refine .q (op_bin64 rfl rfl rfl) trivial rfl ?_
 refine .q (op_shr8 (n := 8 - n) rfl rfl (congrArg some (rotA b n h).2) (by omega)) trivial rfl ?_
 refine .q (op_bin8 rfl rfl rfl) trivial rfl ?_
 refine .q (op_assign rfl) trivial rfl ?_
 refine .nil ?_
 show Ev _ _ _ _ _
 refine .ret ?_
 show RetOk _ _ _ _ _ _ _
 exact ret1v rfl (.inl rfl) rfl rfl trivial
set_option maxRecDepth 100000 in
theorem spread_ev (b : UInt8) : Meets Tryd.prog 35 [.u8 b] [] (.u8 (spr b)) [] := by
 refine meets_of_ev (nt := 18) Tryd.func35 rfl rfl (Nat.le_of_ble_eq_true rfl) ?_
 refine .seq ?_
 refine .region ?_
 refine .q (op_assign rfl) trivial rfl ?_
 refine .nil ?_
 show Ev _ _ _ _ _
 refine .seq ?_
 refine .region ?_
 refine .q (op_move rfl) trivial rfl ?_
 refine .q (op_bin8 rfl rfl rfl) trivial rfl ?_
 refine .q (op_assign rfl) trivial rfl ?_
 refine .nil ?_
 show Ev _ _ _ _ _
 refine .seq ?_
 refine .seq ?_
 refine .region ?_
 refine .q (op_move rfl) trivial rfl ?_
 refine .nil ?_
 show Ev _ _ _ _ _
 refine .block ?_
 refine Ev.loop (ι := { j : Nat // j ≤ 4 }) (fun j => ⟨[(0, .u8 b), (3, .u8 (sprN b j.1)), (7, .i64 ((j.1 : Nat) : Int))], [], 1000⟩) (fun j => 4 - j.1) ⟨0, Nat.zero_le _⟩ (StLe.mk [] rfl rfl ⟨⟨_, rfl, by first | rfl | (simp only [AV.ren]; congr 1; omega), rfl⟩, ⟨_, rfl, by first | rfl | (simp only [AV.ren]; congr 1; omega), rfl⟩, ⟨_, rfl, by first | rfl | (simp only [AV.ren]; congr 1; omega), rfl⟩, trivial⟩ trivial) ?_
 rintro ⟨j, hj⟩
 dsimp only
 refine .seq ?_
 refine .region ?_
 refine .q (op_cmpI rfl rfl rfl) trivial rfl ?_
 refine .nil ?_
 show Ev _ _ _ _ _
 refine .seq ?_
 refine .cond rfl (fun hc8 => ?_) (fun hc8 => ?_)
 ·simp only [decide_eq_true_eq] at hc8
  refine .skip ?_
  show Ev _ _ _ _ _
  refine .seq ?_
  refine .block ?_
  refine .seq ?_
  refine .region ?_
  refine .q (op_move rfl) trivial rfl ?_
  refine .q (op_assign rfl) trivial rfl ?_
  refine .nil ?_
  show Ev _ _ _ _ _
  refine .region ?_
  refine .q (op_move rfl) trivial rfl ?_
  refine .q (op_move rfl) trivial rfl ?_
  refine .q (op_move rfl) trivial rfl ?_
  refine .q (op_addI rfl rfl ⟨by omega, by omega⟩) trivial rfl ?_
  refine .q (op_call (U := []) [] [] (rot_ev b (j + 1) (by omega)) Tryd.func39 (by kernel_rfl) rfl rfl rfl (⟨⟨_, rfl, rfl, rfl⟩, ⟨_, rfl, rfl, rfl⟩, trivial⟩) (trivial) (trivial) (trivial) rfl) trivial rfl ?_
  refine .q (op_bin8 rfl rfl rfl) trivial rfl ?_
  refine .q (op_assign rfl) trivial rfl ?_
  refine .nil ?_
  show Ev _ _ _ _ _
  refine .region ?_
  refine .q (op_addI rfl rfl ⟨by omega, by omega⟩) trivial rfl ?_
  refine .q (op_move rfl) trivial rfl ?_
  refine .nil ?_
  exact ⟨⟨j + 1, by omega⟩, by show 4 - (j + 1) < 4 - j; omega, StLe.mk [] rfl rfl ⟨⟨_, rfl, by first | rfl | (simp only [AV.ren]; congr 1; omega), rfl⟩, ⟨_, rfl, by first | rfl | (simp only [AV.ren]; congr 1; omega), rfl⟩, ⟨_, rfl, by first | rfl | (simp only [AV.ren]; congr 1; omega), rfl⟩, trivial⟩ trivial⟩
 ·simp only [decide_eq_false_iff_not] at hc8
  refine .exit ?_
  show Ev _ _ _ _ _
  have ej : j = 4 := by omega
  refine Ev.weak (st2 := ⟨[(0, .u8 b), (3, .u8 (sprN b (4))), (7, .i64 (((4) : Nat) : Int))], [], 1000⟩) (StLe.mk [] rfl rfl ⟨⟨_, rfl, by first | (simp only [AV.ren]; done) | (simp only [AV.ren]; rw [ej]; done) | rfl, rfl⟩, ⟨_, rfl, by first | (simp only [AV.ren]; done) | (simp only [AV.ren]; rw [ej]; done) | rfl, rfl⟩, ⟨_, rfl, by first | (simp only [AV.ren]; done) | (simp only [AV.ren]; rw [ej]; done) | rfl, rfl⟩, trivial⟩ trivial) ?_
  refine .seq ?_
  refine .region ?_
  refine .q (op_move rfl) trivial rfl ?_
  refine .q (op_assign rfl) trivial rfl ?_
  refine .nil ?_
  show Ev _ _ _ _ _
  refine .ret ?_
  show RetOk _ _ _ _ _ _ _
  exact ret1v rfl (.inl rfl) rfl rfl trivial
set_option maxRecDepth 100000 in
theorem add_ev (a b : List UInt8) (ha : a.length = 16) (hb : b.length = 16) : Meets Tryd.prog 21 [.aggB a, .aggB b] [] (.aggB (adL a b)) [] := by
 refine meets_of_ev (nt := 19) Tryd.func21 rfl rfl (Nat.le_of_ble_eq_true rfl) ?_
 refine .seq ?_
 refine .region ?_
 refine .a (op_boxRow rfl rfl) trivial rfl ?_
 refine .a (op_boxRow rfl rfl) trivial rfl ?_
 refine .a (op_allocRow zero25 rel_zero25 rfl) trivial rfl ?_
 refine .nil ?_
 show Ev _ _ _ _ _
 refine .seq ?_
 refine .seq ?_
 refine .region ?_
 refine .q (op_move rfl) trivial rfl ?_
 refine .nil ?_
 show Ev _ _ _ _ _
 refine .block ?_
 refine Ev.loop (ι := { j : Nat // j ≤ 16 }) (fun j => ⟨[(2, .ptr 1000 0), (3, .ptr 1008 0), (4, .ptr 1016 0), (6, .i64 ((j.1 : Nat) : Int))], [(1000, some ⟨.aggB (mpU (fun i => a.getD i 0 ^^^ b.getD i 0) a j.1), 25, true⟩), (1008, some ⟨.aggB b, 25, true⟩), (1016, some ⟨.aggB (List.replicate 16 0), 25, true⟩)], 1024⟩) (fun j => 16 - j.1) ⟨0, Nat.zero_le _⟩ (StLe.mk [(1000, 1000), (1008, 1008), (1016, 1016)] rfl rfl ⟨⟨_, rfl, by first | rfl | (simp only [AV.ren]; congr 1; omega), rfl⟩, ⟨_, rfl, by first | rfl | (simp only [AV.ren]; congr 1; omega), rfl⟩, ⟨_, rfl, by first | rfl | (simp only [AV.ren]; congr 1; omega), rfl⟩, ⟨_, rfl, by first | rfl | (simp only [AV.ren]; congr 1; omega), rfl⟩, trivial⟩ ⟨⟨_, _, rfl, rfl, by first | rfl | (simp only [AV.ren]; congr 1; omega), rfl, id, rfl⟩, ⟨_, _, rfl, rfl, by first | rfl | (simp only [AV.ren]; congr 1; omega), rfl, id, rfl⟩, ⟨_, _, rfl, rfl, by first | rfl | (simp only [AV.ren]; congr 1; omega), rfl, id, rfl⟩, trivial⟩) ?_
 rintro ⟨j, hj⟩
 dsimp only
 have hl := length_mpU (fun i => a.getD i 0 ^^^ b.getD i 0) a j (by omega)
 refine .seq ?_
 refine .region ?_
 refine .q (op_cmpI rfl rfl rfl) trivial rfl ?_
 refine .nil ?_
 show Ev _ _ _ _ _
 refine .seq ?_
 refine .cond rfl (fun hc7 => ?_) (fun hc7 => ?_)
 ·simp only [decide_eq_true_eq] at hc7
  refine .skip ?_
  show Ev _ _ _ _ _
  refine .seq ?_
  refine .block ?_
  refine .seq ?_
  refine .region ?_
  refine .q (op_move rfl) trivial rfl ?_
  refine .q (op_assign rfl) trivial rfl ?_
  refine .nil ?_
  show Ev _ _ _ _ _
  refine .drawn [[], [0], [0, 1], [], [3], [3, 4], [0, 1, 2, 3, 4, 5], [0, 1, 2, 3, 4, 5, 6], [0, 1, 2, 3, 4, 5, 6, 7]] [2, 5, 8] [8] (by kernel_rfl) (by kernel_rfl) rfl ?_
  show DK _ [0, 1, 2, 3, 4, 5, 6, 7, 8] _ _ _
  refine .q rfl (op_move rfl) trivial ?_
  refine .q rfl (ap_idx_arr Tryd.underlying25 inf5.sz rfl rfl rfl (by first | omega | (simp only [AV.len]; omega) | (simp only [AV.len, List.length_set]; omega) | assumption | (simp [AV.len]; done))) trivial ?_
  refine .q rfl (op_load Tryd.underlying5 rfl rfl rfl rfl (by simp only [AV.len, hl]; omega)) trivial ?_
  refine .q rfl (op_move rfl) trivial ?_
  refine .q rfl (ap_idx_arr Tryd.underlying25 inf5.sz rfl rfl rfl (by first | omega | (simp only [AV.len]; omega) | (simp only [AV.len, List.length_set]; omega) | assumption | (simp [AV.len]; done))) trivial ?_
  refine .q rfl (op_load Tryd.underlying5 rfl rfl rfl rfl (by simp only [AV.len]; omega)) trivial ?_
  refine .q rfl (op_bin8 rfl rfl rfl) trivial ?_
  refine .q rfl (ap_idx_arr Tryd.underlying25 inf5.sz rfl rfl rfl (by first | omega | (simp only [AV.len]; omega) | (simp only [AV.len, List.length_set]; omega) | assumption | (simp [AV.len]; done))) trivial ?_
  refine .w rfl (op_store inf5.sz rfl rfl rfl rfl rfl (by simp only [AV.len, hl]; omega)) trivial rfl rfl ?_
  refine .nil ?_
  show Ev _ _ _ _ _
  refine .region ?_
  refine .q (op_addI rfl rfl ⟨by omega, by omega⟩) trivial rfl ?_
  refine .q (op_move rfl) trivial rfl ?_
  refine .nil ?_
  exact ⟨⟨j + 1, by omega⟩, by show 16 - (j + 1) < 16 - j; omega, StLe.mk [(1000, 1000), (1008, 1008), (1016, 1016)] rfl rfl ⟨⟨_, rfl, by first | rfl | (simp only [AV.ren]; congr 1; omega), rfl⟩, ⟨_, rfl, by first | rfl | (simp only [AV.ren]; congr 1; omega), rfl⟩, ⟨_, rfl, by first | rfl | (simp only [AV.ren]; congr 1; omega), rfl⟩, ⟨_, rfl, by first | rfl | (simp only [AV.ren]; congr 1; omega), rfl⟩, trivial⟩ ⟨⟨_, _, rfl, rfl, by (simp only [AV.ren]; rw [mpU_set _ _ _ _ (by omega) (by rw [mpU_get _ _ _ _ (Nat.le_refl _)])]), rfl, id, rfl⟩, ⟨_, _, rfl, rfl, by first | rfl | (simp only [AV.ren]; congr 1; omega), rfl, id, rfl⟩, ⟨_, _, rfl, rfl, by first | rfl | (simp only [AV.ren]; congr 1; omega), rfl, id, rfl⟩, trivial⟩⟩
 ·simp only [decide_eq_false_iff_not] at hc7
  refine .exit ?_
  show Ev _ _ _ _ _
  have ej : j = 16 := by omega
  refine Ev.weak (st2 := ⟨[(2, .ptr 1000 0), (3, .ptr 1008 0), (4, .ptr 1016 0), (6, .i64 (((16) : Nat) : Int))], [(1000, some ⟨.aggB (mpU (fun i => a.getD i 0 ^^^ b.getD i 0) a (16)), 25, true⟩), (1008, some ⟨.aggB b, 25, true⟩), (1016, some ⟨.aggB (List.replicate 16 0), 25, true⟩)], 1024⟩) (StLe.mk [(1000, 1000), (1008, 1008), (1016, 1016)] rfl rfl ⟨⟨_, rfl, by first | (simp only [AV.ren]; done) | (simp only [AV.ren]; rw [ej]; done) | rfl, rfl⟩, ⟨_, rfl, by first | (simp only [AV.ren]; done) | (simp only [AV.ren]; rw [ej]; done) | rfl, rfl⟩, ⟨_, rfl, by first | (simp only [AV.ren]; done) | (simp only [AV.ren]; rw [ej]; done) | rfl, rfl⟩, ⟨_, rfl, by first | (simp only [AV.ren]; done) | (simp only [AV.ren]; rw [ej]; done) | rfl, rfl⟩, trivial⟩ ⟨⟨_, _, rfl, rfl, by first | (simp only [AV.ren]; done) | (simp only [AV.ren]; rw [ej]; done) | rfl, rfl, id, rfl⟩, ⟨_, _, rfl, rfl, by first | (simp only [AV.ren]; done) | (simp only [AV.ren]; rw [ej]; done) | rfl, rfl, id, rfl⟩, ⟨_, _, rfl, rfl, by first | (simp only [AV.ren]; done) | (simp only [AV.ren]; rw [ej]; done) | rfl, rfl, id, rfl⟩, trivial⟩) ?_
  refine .seq ?_
  refine .region ?_
  refine .q (op_loadRow Tryd.underlying25 rfl sz25 rfl rfl rfl (by first | omega | (simp only [AV.len, length_mpU _ _ 16 (show 16 ≤ a.length by omega), ha]; done) | (simp only [AV.ren, AV.len, length_mpU _ _ 16 (show 16 ≤ a.length by omega), List.length_replicate, ha]; omega))) trivial rfl ?_
  refine .w (op_storeRow sz25 rfl rfl rfl rfl rfl (by first | omega | (simp only [AV.len, length_mpU _ _ 16 (show 16 ≤ a.length by omega), ha]; done) | (simp only [AV.ren, AV.len, length_mpU _ _ 16 (show 16 ≤ a.length by omega), List.length_replicate, ha]; omega)) (by first | omega | (simp only [AV.len, List.length_replicate]; done) | (simp only [AV.ren, AV.len, length_mpU _ _ 16 (show 16 ≤ a.length by omega), List.length_replicate, ha]; omega))) trivial rfl ?_
  refine .nil ?_
  show Ev _ _ _ _ _
  refine .ret ?_
  show RetOk _ _ _ _ _ _ _
  exact retc1 rfl (.inl rfl) ⟨_, _, _, _, rfl, rfl, (congrArg AV.aggB (mpU_all _ _ 16 ha)), rfl, (length_adL a b), Tryd.underlying25, rfl, sz25⟩ trivial
set_option maxRecDepth 100000 in
theorem shift_ev (a : List UInt8) (ha : a.length = 16) : Meets Tryd.prog 22 [.aggB a] [] (.aggB (shL a)) [] := by
 refine meets_of_ev (nt := 22) Tryd.func22 rfl rfl (Nat.le_of_ble_eq_true rfl) ?_
 refine .seq ?_
 refine .region ?_
 refine .a (op_boxRow rfl rfl) trivial rfl ?_
 refine .a (op_allocRow zero25 rel_zero25 rfl) trivial rfl ?_
 refine .nil ?_
 show Ev _ _ _ _ _
 refine .seq ?_
 refine .region ?_
 refine .a (op_allocRow zero25 rel_zero25 rfl) trivial rfl ?_
 refine .nil ?_
 show Ev _ _ _ _ _
 refine .seq ?_
 refine .seq ?_
 refine .region ?_
 refine .q (op_move rfl) trivial rfl ?_
 refine .nil ?_
 show Ev _ _ _ _ _
 refine .block ?_
 refine Ev.loop (ι := { j : Nat // j ≤ 16 }) (fun j => ⟨[(1, .ptr 1000 0), (2, .ptr 1008 0), (3, .ptr 1016 0), (6, .i64 ((j.1 : Nat) : Int))], [(1000, some ⟨.aggB a, 25, true⟩), (1008, some ⟨.aggB (List.replicate 16 (0 : UInt8)), 25, true⟩), (1016, some ⟨.aggB (mpU (fun i => a.getD ((i + 4 * (i % 4)) % 16) 0) (List.replicate 16 (0 : UInt8)) j.1), 25, true⟩)], 1024⟩) (fun j => 16 - j.1) ⟨0, Nat.zero_le _⟩ (StLe.mk [(1000, 1000), (1008, 1008), (1016, 1016)] rfl rfl ⟨⟨_, rfl, by first | rfl | (simp only [AV.ren]; congr 1; omega), rfl⟩, ⟨_, rfl, by first | rfl | (simp only [AV.ren]; congr 1; omega), rfl⟩, ⟨_, rfl, by first | rfl | (simp only [AV.ren]; congr 1; omega), rfl⟩, ⟨_, rfl, by first | rfl | (simp only [AV.ren]; congr 1; omega), rfl⟩, trivial⟩ ⟨⟨_, _, rfl, rfl, by first | rfl | (simp only [AV.ren]; congr 1; omega), rfl, id, rfl⟩, ⟨_, _, rfl, rfl, by first | rfl | (simp only [AV.ren]; congr 1; omega), rfl, id, rfl⟩, ⟨_, _, rfl, rfl, by first | rfl | (simp only [AV.ren]; congr 1; omega), rfl, id, rfl⟩, trivial⟩) ?_
 rintro ⟨j, hj⟩
 dsimp only
 have hl := length_mpU (fun i => a.getD ((i + 4 * (i % 4)) % 16) 0) (List.replicate 16 (0 : UInt8)) j (by rw [List.length_replicate]; omega)
 rw [List.length_replicate] at hl
 refine .seq ?_
 refine .region ?_
 refine .q (op_cmpI rfl rfl rfl) trivial rfl ?_
 refine .nil ?_
 show Ev _ _ _ _ _
 refine .seq ?_
 refine .cond rfl (fun hc7 => ?_) (fun hc7 => ?_)
 ·simp only [decide_eq_true_eq] at hc7
  refine .skip ?_
  show Ev _ _ _ _ _
  refine .seq ?_
  refine .block ?_
  refine .seq ?_
  refine .region ?_
  refine .q (op_move rfl) trivial rfl ?_
  refine .q (op_assign rfl) trivial rfl ?_
  refine .nil ?_
  show Ev _ _ _ _ _
  refine .seq ?_
  refine .region ?_
  refine .q (op_move rfl) trivial rfl ?_
  refine .q (op_remI rfl rfl ⟨by omega, by omega⟩) trivial rfl ?_
  refine .q (op_assign rfl) trivial rfl ?_
  refine .nil ?_
  show Ev _ _ _ _ _
  refine .region ?_
  refine .q (op_move rfl) trivial rfl ?_
  refine .q (op_move rfl) trivial rfl ?_
  refine .q (op_move rfl) trivial rfl ?_
  refine .q (op_mulI rfl rfl ⟨by omega, by omega⟩) trivial rfl ?_
  refine .q (op_addI rfl rfl ⟨by omega, by omega⟩) trivial rfl ?_
  refine .q (op_remI rfl rfl ⟨by omega, by omega⟩) trivial rfl ?_
  refine .q (ap_idx_arr Tryd.underlying25 inf5.sz rfl rfl (i := (j + 4 * (j % 4)) % 16) (by omega) (by first | omega | (simp only [AV.len]; omega) | (simp only [AV.len, List.length_set]; omega) | assumption | (simp [AV.len]; done))) trivial rfl ?_
  refine .q (op_load Tryd.underlying5 rfl rfl rfl rfl (by simp only [AV.len]; omega)) trivial rfl ?_
  refine .q (ap_idx_arr Tryd.underlying25 inf5.sz rfl rfl rfl (by first | omega | (simp only [AV.len]; omega) | (simp only [AV.len, List.length_set]; omega) | assumption | (simp [AV.len]; done))) trivial rfl ?_
  refine .w (op_store inf5.sz rfl rfl rfl rfl rfl (by simp only [AV.len, hl]; omega)) trivial rfl ?_
  refine .nil ?_
  show Ev _ _ _ _ _
  refine .region ?_
  refine .q (op_addI rfl rfl ⟨by omega, by omega⟩) trivial rfl ?_
  refine .q (op_move rfl) trivial rfl ?_
  refine .nil ?_
  exact ⟨⟨j + 1, by omega⟩, by show 16 - (j + 1) < 16 - j; omega, StLe.mk [(1000, 1000), (1008, 1008), (1016, 1016)] rfl rfl ⟨⟨_, rfl, by first | rfl | (simp only [AV.ren]; congr 1; omega), rfl⟩, ⟨_, rfl, by first | rfl | (simp only [AV.ren]; congr 1; omega), rfl⟩, ⟨_, rfl, by first | rfl | (simp only [AV.ren]; congr 1; omega), rfl⟩, ⟨_, rfl, by first | rfl | (simp only [AV.ren]; congr 1; omega), rfl⟩, trivial⟩ ⟨⟨_, _, rfl, rfl, by first | rfl | (simp only [AV.ren]; congr 1; omega), rfl, id, rfl⟩, ⟨_, _, rfl, rfl, by first | rfl | (simp only [AV.ren]; congr 1; omega), rfl, id, rfl⟩, ⟨_, _, rfl, rfl, by (simp only [AV.ren]; rw [mpU_set _ _ _ _ (by rw [List.length_replicate]; omega) (by rfl)]), rfl, id, rfl⟩, trivial⟩⟩
 ·simp only [decide_eq_false_iff_not] at hc7
  refine .exit ?_
  show Ev _ _ _ _ _
  have ej : j = 16 := by omega
  refine Ev.weak (st2 := ⟨[(1, .ptr 1000 0), (2, .ptr 1008 0), (3, .ptr 1016 0), (6, .i64 (((16) : Nat) : Int))], [(1000, some ⟨.aggB a, 25, true⟩), (1008, some ⟨.aggB (List.replicate 16 (0 : UInt8)), 25, true⟩), (1016, some ⟨.aggB (mpU (fun i => a.getD ((i + 4 * (i % 4)) % 16) 0) (List.replicate 16 (0 : UInt8)) (16)), 25, true⟩)], 1024⟩) (StLe.mk [(1000, 1000), (1008, 1008), (1016, 1016)] rfl rfl ⟨⟨_, rfl, by first | (simp only [AV.ren]; done) | (simp only [AV.ren]; rw [ej]; done) | rfl, rfl⟩, ⟨_, rfl, by first | (simp only [AV.ren]; done) | (simp only [AV.ren]; rw [ej]; done) | rfl, rfl⟩, ⟨_, rfl, by first | (simp only [AV.ren]; done) | (simp only [AV.ren]; rw [ej]; done) | rfl, rfl⟩, ⟨_, rfl, by first | (simp only [AV.ren]; done) | (simp only [AV.ren]; rw [ej]; done) | rfl, rfl⟩, trivial⟩ ⟨⟨_, _, rfl, rfl, by first | (simp only [AV.ren]; done) | (simp only [AV.ren]; rw [ej]; done) | rfl, rfl, id, rfl⟩, ⟨_, _, rfl, rfl, by first | (simp only [AV.ren]; done) | (simp only [AV.ren]; rw [ej]; done) | rfl, rfl, id, rfl⟩, ⟨_, _, rfl, rfl, by first | (simp only [AV.ren]; done) | (simp only [AV.ren]; rw [ej]; done) | rfl, rfl, id, rfl⟩, trivial⟩) ?_
  refine .seq ?_
  refine .region ?_
  refine .q (op_loadRow Tryd.underlying25 rfl sz25 rfl rfl rfl (by first | omega | (simp only [AV.len, length_mpU _ _ 16 (show 16 ≤ (List.replicate 16 (0 : UInt8)).length by rw [List.length_replicate]; omega), List.length_replicate]; done) | (simp only [AV.ren, AV.len, length_mpU _ _ 16 (show 16 ≤ (List.replicate 16 (0 : UInt8)).length by rw [List.length_replicate]; omega), List.length_replicate]; omega))) trivial rfl ?_
  refine .w (op_storeRow sz25 rfl rfl rfl rfl rfl (by first | omega | (simp only [AV.len, length_mpU _ _ 16 (show 16 ≤ (List.replicate 16 (0 : UInt8)).length by rw [List.length_replicate]; omega), List.length_replicate]; done) | (simp only [AV.ren, AV.len, length_mpU _ _ 16 (show 16 ≤ (List.replicate 16 (0 : UInt8)).length by rw [List.length_replicate]; omega), List.length_replicate]; omega)) (by first | omega | (simp only [AV.len, List.length_replicate]; done) | (simp only [AV.ren, AV.len, length_mpU _ _ 16 (show 16 ≤ (List.replicate 16 (0 : UInt8)).length by rw [List.length_replicate]; omega), List.length_replicate]; omega))) trivial rfl ?_
  refine .nil ?_
  show Ev _ _ _ _ _
  refine .ret ?_
  show RetOk _ _ _ _ _ _ _
  exact retc1 rfl (.inl rfl) ⟨_, _, _, _, rfl, rfl, (congrArg AV.aggB (mpU_all _ _ 16 (List.length_replicate ..))), rfl, (length_shL a), Tryd.underlying25, rfl, sz25⟩ trivial
set_option maxRecDepth 100000 in
theorem mix_ev (a : List UInt8) (ha : a.length = 16) : Meets Tryd.prog 24 [.aggB a] [] (.aggB (mxL a)) [] := by
 refine meets_of_ev (nt := 54) Tryd.func24 rfl rfl (Nat.le_of_ble_eq_true rfl) ?_
 refine .seq ?_
 refine .region ?_
 refine .a (op_boxRow rfl rfl) trivial rfl ?_
 refine .a (op_allocRow zero25 rel_zero25 rfl) trivial rfl ?_
 refine .nil ?_
 show Ev _ _ _ _ _
 refine .seq ?_
 refine .seq ?_
 refine .region ?_
 refine .q (op_move rfl) trivial rfl ?_
 refine .nil ?_
 show Ev _ _ _ _ _
 refine .block ?_
 refine Ev.loop (ι := { j : Nat // j ≤ 4 }) (fun j => ⟨[(1, .ptr 1000 0), (2, .ptr 1008 0), (8, .i64 ((j.1 : Nat) : Int))], [(1000, some ⟨.aggB (mpU (mxF a) a (4 * j.1)), 25, true⟩), (1008, some ⟨.aggB (List.replicate 16 (0 : UInt8)), 25, true⟩)], 1016⟩) (fun j => 4 - j.1) ⟨0, Nat.zero_le _⟩ (StLe.mk [(1000, 1000), (1008, 1008)] rfl rfl ⟨⟨_, rfl, by first | rfl | (simp only [AV.ren]; congr 1; omega), rfl⟩, ⟨_, rfl, by first | rfl | (simp only [AV.ren]; congr 1; omega), rfl⟩, ⟨_, rfl, by first | rfl | (simp only [AV.ren]; congr 1; omega), rfl⟩, trivial⟩ ⟨⟨_, _, rfl, rfl, by first | rfl | (simp only [AV.ren]; congr 1; omega), rfl, id, rfl⟩, ⟨_, _, rfl, rfl, by first | rfl | (simp only [AV.ren]; congr 1; omega), rfl, id, rfl⟩, trivial⟩) ?_
 rintro ⟨c, hc⟩
 dsimp only
 have hl := length_mpU (mxF a) a (4 * c) (by omega)
 refine .seq ?_
 refine .region ?_
 refine .q (op_cmpI rfl rfl rfl) trivial rfl ?_
 refine .nil ?_
 show Ev _ _ _ _ _
 refine .seq ?_
 refine .cond rfl (fun hc9 => ?_) (fun hc9 => ?_)
 ·simp only [decide_eq_true_eq] at hc9
  refine .skip ?_
  show Ev _ _ _ _ _
  refine .seq ?_
  refine .block ?_
  refine .seq ?_
  refine .region ?_
  refine .q (op_move rfl) trivial rfl ?_
  refine .q (op_assign rfl) trivial rfl ?_
  refine .nil ?_
  show Ev _ _ _ _ _
  refine .seq ?_
  refine .region ?_
  refine .q (op_move rfl) trivial rfl ?_
  refine .q (op_mulI rfl rfl ⟨by omega, by omega⟩) trivial rfl ?_
  refine .q (op_slice_arr Tryd.underlying25 inf5.sz rfl rfl (by first | omega | (simp only [AV.len, hl]; omega)) (by decide) (bnd_some rfl (l := 4 * c) (by omega)) rfl (by first | omega | (simp only [AV.len, hl]; omega)) (by first | omega | (simp only [AV.len, hl]; omega))) trivial rfl ?_
  refine .q (op_toArrPtr Tryd.underlying62 rfl (by omega) (by omega)) trivial rfl ?_
  refine .q (op_loadB Tryd.underlying62 rfl sz62 rfl rfl (by rw [hl]; omega)) trivial rfl ?_
  refine .as (.aggB (colL a c)) (by rw [show 0 + 4 * c * 1 = 4 * c by omega, col_eq a c ha (by omega)]) ?_
  refine .a (op_allocRow zero62 rel_zero62 rfl) trivial rfl ?_
  refine .w (op_storeRow sz62 rfl rfl rfl rfl rfl (by first | omega | (simp only [AV.len, length_colL]; done) | (simp only [AV.ren, AV.len, length_colL, List.length_replicate]; omega)) (by first | omega | (simp only [AV.len, List.length_replicate]; done) | (simp only [AV.ren, AV.len, length_colL, List.length_replicate]; omega))) trivial rfl ?_
  refine .nil ?_
  show Ev _ _ _ _ _
  refine .seq ?_
  refine .region ?_
  refine .q (ap_idx_arr Tryd.underlying62 inf5.sz rfl rfl rfl (by first | omega | (skip; omega) | (skip; omega) | assumption | (simp; done))) trivial rfl ?_
  refine .q (op_load Tryd.underlying5 rfl rfl rfl rfl (by simp only [AV.len, length_colL]; omega)) trivial rfl ?_
  refine .q (ap_idx_arr Tryd.underlying62 inf5.sz rfl rfl rfl (by first | omega | (skip; omega) | (skip; omega) | assumption | (simp; done))) trivial rfl ?_
  refine .q (op_load Tryd.underlying5 rfl rfl rfl rfl (by simp only [AV.len, length_colL]; omega)) trivial rfl ?_
  refine .q (op_bin8 rfl rfl rfl) trivial rfl ?_
  refine .q (ap_idx_arr Tryd.underlying62 inf5.sz rfl rfl rfl (by first | omega | (skip; omega) | (skip; omega) | assumption | (simp; done))) trivial rfl ?_
  refine .q (op_load Tryd.underlying5 rfl rfl rfl rfl (by simp only [AV.len, length_colL]; omega)) trivial rfl ?_
  refine .q (op_bin8 rfl rfl rfl) trivial rfl ?_
  refine .q (ap_idx_arr Tryd.underlying62 inf5.sz rfl rfl rfl (by first | omega | (skip; omega) | (skip; omega) | assumption | (simp; done))) trivial rfl ?_
  refine .q (op_load Tryd.underlying5 rfl rfl rfl rfl (by simp only [AV.len, length_colL]; omega)) trivial rfl ?_
  refine .q (op_bin8 rfl rfl rfl) trivial rfl ?_
  refine .as (.u8 (colA a c)) rfl ?_
  refine .q (op_assign rfl) trivial rfl ?_
  refine .nil ?_
  show Ev _ _ _ _ _
  refine .seq ?_
  refine .region ?_
  refine .q (op_move rfl) trivial rfl ?_
  refine .nil ?_
  show Ev _ _ _ _ _
  refine .block ?_
  refine Ev.loop (ι := { j : Nat // j ≤ 4 }) (fun j => ⟨[(1, .ptr 1000 0), (2, .ptr 1008 0), (3, .i64 (c : Int)), (4, .ptr 1016 0), (5, .u8 (colA a c)), (8, .i64 (c : Int)), (27, .i64 ((j.1 : Nat) : Int))], [(1000, some ⟨.aggB (mpU (mxF a) a (4 * c + j.1)), 25, true⟩), (1008, some ⟨.aggB (List.replicate 16 (0 : UInt8)), 25, true⟩), (1016, some ⟨.aggB (colL a c), 62, true⟩)], 1024⟩) (fun j => 4 - j.1) ⟨0, Nat.zero_le _⟩ (StLe.mk [(1000, 1000), (1008, 1008), (1016, 1016)] rfl rfl ⟨⟨_, rfl, by first | rfl | (simp only [AV.ren]; congr 1; omega), rfl⟩, ⟨_, rfl, by first | rfl | (simp only [AV.ren]; congr 1; omega), rfl⟩, ⟨_, rfl, by first | rfl | (simp only [AV.ren]; congr 1; omega), rfl⟩, ⟨_, rfl, by first | rfl | (simp only [AV.ren]; congr 1; omega), rfl⟩, ⟨_, rfl, by first | rfl | (simp only [AV.ren]; congr 1; omega), rfl⟩, ⟨_, rfl, by first | rfl | (simp only [AV.ren]; congr 1; omega), rfl⟩, ⟨_, rfl, by first | rfl | (simp only [AV.ren]; congr 1; omega), rfl⟩, trivial⟩ ⟨⟨_, _, rfl, rfl, by first | rfl | (simp only [AV.ren]; congr 1; omega), rfl, id, rfl⟩, ⟨_, _, rfl, rfl, by first | rfl | (simp only [AV.ren]; congr 1; omega), rfl, id, rfl⟩, ⟨_, _, rfl, rfl, by first | rfl | (simp only [AV.ren]; congr 1; omega), rfl, id, rfl⟩, trivial⟩) ?_
  rintro ⟨j, hj⟩
  dsimp only
  have hl2 := length_mpU (mxF a) a (4 * c + j) (by omega)
  refine .seq ?_
  refine .region ?_
  refine .q (op_cmpI rfl rfl rfl) trivial rfl ?_
  refine .nil ?_
  show Ev _ _ _ _ _
  refine .seq ?_
  refine .cond rfl (fun hc28 => ?_) (fun hc28 => ?_)
  ·simp only [decide_eq_true_eq] at hc28
   refine .skip ?_
   show Ev _ _ _ _ _
   refine .seq ?_
   refine .block ?_
   refine .seq ?_
   refine .region ?_
   refine .q (op_move rfl) trivial rfl ?_
   refine .q (op_assign rfl) trivial rfl ?_
   refine .nil ?_
   show Ev _ _ _ _ _
   refine .seq ?_
   refine .region ?_
   refine .q (op_move rfl) trivial rfl ?_
   refine .q (op_addI rfl rfl ⟨by omega, by omega⟩) trivial rfl ?_
   refine .q (op_remI rfl rfl ⟨by omega, by omega⟩) trivial rfl ?_
   refine .q (ap_idx_arr Tryd.underlying62 inf5.sz rfl rfl (i := (j + 1) % 4) (by omega) (by first | omega | (simp only [AV.len]; omega) | (simp only [AV.len, List.length_set]; omega) | assumption | (simp [AV.len]; done))) trivial rfl ?_
   refine .q (op_load Tryd.underlying5 rfl rfl rfl rfl (by simp only [AV.len, length_colL]; omega)) trivial rfl ?_
   refine .q (op_assign rfl) trivial rfl ?_
   refine .nil ?_
   show Ev _ _ _ _ _
   refine .drawn [[], [0], [], [0, 1, 2], [0, 1, 2, 3], [0, 1, 2, 3, 4], [], [], [7], [7, 8], [], [7, 8, 9, 10], [7, 8, 9, 10, 11], [6, 7, 8, 9, 10, 11, 12], [0, 1, 2, 3, 4, 5, 6, 7, 8, 9, 10, 11, 12, 13], [0, 1, 2, 3, 4, 5, 6, 7, 8, 9, 10, 11, 12, 13, 14], [0, 1, 2, 3, 4, 5, 6, 7, 8, 9, 10, 11, 12, 13, 14, 15]] [5, 9, 12, 16] [16] (by kernel_rfl) (by kernel_rfl) rfl ?_
   show DK _ [0, 1, 2, 3, 4, 5, 6, 7, 8, 9, 10, 11, 12, 13, 14, 15, 16] _ _ _
   refine .q rfl (op_move rfl) trivial ?_
   refine .q rfl (op_mulI rfl rfl ⟨by omega, by omega⟩) trivial ?_
   refine .q rfl (op_move rfl) trivial ?_
   refine .q rfl (op_addI rfl rfl ⟨by omega, by omega⟩) trivial ?_
   refine .q rfl (ap_idx_arr Tryd.underlying25 inf5.sz rfl rfl (i := 4 * c + j) (by omega) (by first | omega | (simp only [AV.len]; omega) | (simp only [AV.len, List.length_set]; omega) | assumption | (simp [AV.len]; done))) trivial ?_
   refine .q rfl (op_load Tryd.underlying5 rfl rfl rfl rfl (by simp only [AV.len, hl2]; omega)) trivial ?_
   refine .q rfl (op_move rfl) trivial ?_
   refine .q rfl (op_move rfl) trivial ?_
   refine .q rfl (ap_idx_arr Tryd.underlying62 inf5.sz rfl rfl rfl (by first | omega | (simp only [AV.len]; omega) | (simp only [AV.len, List.length_set]; omega) | assumption | (simp [AV.len]; done))) trivial ?_
   refine .q rfl (op_load Tryd.underlying5 rfl rfl rfl rfl (by simp only [AV.len, length_colL]; omega)) trivial ?_
   refine .q rfl (op_move rfl) trivial ?_
   refine .q rfl (op_bin8 rfl rfl rfl) trivial ?_
   refine .q rfl (op_call (U := []) [] [] (double_ev _) Tryd.func34 (by kernel_rfl) rfl rfl rfl (⟨⟨_, rfl, rfl, rfl⟩, trivial⟩) (trivial) (trivial) (trivial) rfl) trivial ?_
   refine .q rfl (op_bin8 rfl rfl rfl) trivial ?_
   refine .q rfl (op_bin8 rfl rfl rfl) trivial ?_
   refine .q rfl (ap_idx_arr Tryd.underlying25 inf5.sz rfl rfl (i := 4 * c + j) (by omega) (by first | omega | (simp only [AV.len]; omega) | (simp only [AV.len, List.length_set]; omega) | assumption | (simp [AV.len]; done))) trivial ?_
   refine .w rfl (op_store inf5.sz rfl rfl rfl rfl rfl (by simp only [AV.len, hl2]; omega)) trivial rfl rfl ?_
   refine .nil ?_
   show Ev _ _ _ _ _
   refine .region ?_
   refine .q (op_addI rfl rfl ⟨by omega, by omega⟩) trivial rfl ?_
   refine .q (op_move rfl) trivial rfl ?_
   refine .nil ?_
   exact ⟨⟨j + 1, by omega⟩, by show 4 - (j + 1) < 4 - j; omega, StLe.mk [(1000, 1000), (1008, 1008), (1016, 1016)] rfl rfl ⟨⟨_, rfl, by first | rfl | (simp only [AV.ren]; congr 1; omega), rfl⟩, ⟨_, rfl, by first | rfl | (simp only [AV.ren]; congr 1; omega), rfl⟩, ⟨_, rfl, by first | rfl | (simp only [AV.ren]; congr 1; omega), rfl⟩, ⟨_, rfl, by first | rfl | (simp only [AV.ren]; congr 1; omega), rfl⟩, ⟨_, rfl, by first | rfl | (simp only [AV.ren]; congr 1; omega), rfl⟩, ⟨_, rfl, by first | rfl | (simp only [AV.ren]; congr 1; omega), rfl⟩, ⟨_, rfl, by first | rfl | (simp only [AV.ren]; congr 1; omega), rfl⟩, trivial⟩ ⟨⟨_, _, rfl, rfl, by (simp only [AV.ren]; rw [mpU_set _ _ _ _ (by omega) (mxF_step a c j (by omega) (by omega))]; rfl), rfl, id, rfl⟩, ⟨_, _, rfl, rfl, by first | rfl | (simp only [AV.ren]; congr 1; omega), rfl, id, rfl⟩, ⟨_, _, rfl, rfl, by first | rfl | (simp only [AV.ren]; congr 1; omega), rfl, id, rfl⟩, trivial⟩⟩
  ·simp only [decide_eq_false_iff_not] at hc28
   refine .exit ?_
   show Ev _ _ _ _ _
   have ej : j = 4 := by omega
   refine Ev.weak (st2 := ⟨[(1, .ptr 1000 0), (2, .ptr 1008 0), (3, .i64 (c : Int)), (4, .ptr 1016 0), (5, .u8 (colA a c)), (8, .i64 (c : Int)), (27, .i64 (((4) : Nat) : Int))], [(1000, some ⟨.aggB (mpU (mxF a) a (4 * c + (4))), 25, true⟩), (1008, some ⟨.aggB (List.replicate 16 (0 : UInt8)), 25, true⟩), (1016, some ⟨.aggB (colL a c), 62, true⟩)], 1024⟩) (StLe.mk [(1000, 1000), (1008, 1008), (1016, 1016)] rfl rfl ⟨⟨_, rfl, by first | (simp only [AV.ren]; done) | (simp only [AV.ren]; rw [ej]; done) | rfl, rfl⟩, ⟨_, rfl, by first | (simp only [AV.ren]; done) | (simp only [AV.ren]; rw [ej]; done) | rfl, rfl⟩, ⟨_, rfl, by first | (simp only [AV.ren]; done) | (simp only [AV.ren]; rw [ej]; done) | rfl, rfl⟩, ⟨_, rfl, by first | (simp only [AV.ren]; done) | (simp only [AV.ren]; rw [ej]; done) | rfl, rfl⟩, ⟨_, rfl, by first | (simp only [AV.ren]; done) | (simp only [AV.ren]; rw [ej]; done) | rfl, rfl⟩, ⟨_, rfl, by first | (simp only [AV.ren]; done) | (simp only [AV.ren]; rw [ej]; done) | rfl, rfl⟩, ⟨_, rfl, by first | (simp only [AV.ren]; done) | (simp only [AV.ren]; rw [ej]; done) | rfl, rfl⟩, trivial⟩ ⟨⟨_, _, rfl, rfl, by (simp only [AV.ren]; rw [ej]), rfl, id, rfl⟩, ⟨_, _, rfl, rfl, by first | (simp only [AV.ren]; done) | (simp only [AV.ren]; rw [ej]; done) | rfl, rfl, id, rfl⟩, ⟨_, _, rfl, rfl, by first | (simp only [AV.ren]; done) | (simp only [AV.ren]; rw [ej]; done) | rfl, rfl, id, rfl⟩, trivial⟩) ?_
   refine .region ?_
   refine .q (op_addI rfl rfl ⟨by omega, by omega⟩) trivial rfl ?_
   refine .q (op_move rfl) trivial rfl ?_
   refine .nil ?_
   exact ⟨⟨c + 1, by omega⟩, by show 4 - (c + 1) < 4 - c; omega, StLe.mk [(1000, 1000), (1008, 1008)] rfl rfl ⟨⟨_, rfl, by first | rfl | (simp only [AV.ren]; congr 1; omega), rfl⟩, ⟨_, rfl, by first | rfl | (simp only [AV.ren]; congr 1; omega), rfl⟩, ⟨_, rfl, by first | rfl | (simp only [AV.ren]; congr 1; omega), rfl⟩, trivial⟩ ⟨⟨_, _, rfl, rfl, by (simp only [AV.ren]; first | rfl | (rw [show 4 * c + 4 = 4 * (c + 1) by omega]; done)), rfl, id, rfl⟩, ⟨_, _, rfl, rfl, by first | rfl | (simp only [AV.ren]; congr 1; omega), rfl, id, rfl⟩, trivial⟩⟩
 ·simp only [decide_eq_false_iff_not] at hc9
  refine .exit ?_
  show Ev _ _ _ _ _
  have ec : c = 4 := by omega
  refine Ev.weak (st2 := ⟨[(1, .ptr 1000 0), (2, .ptr 1008 0), (8, .i64 (((4) : Nat) : Int))], [(1000, some ⟨.aggB (mpU (mxF a) a (4 * (4))), 25, true⟩), (1008, some ⟨.aggB (List.replicate 16 (0 : UInt8)), 25, true⟩)], 1016⟩) (StLe.mk [(1000, 1000), (1008, 1008)] rfl rfl ⟨⟨_, rfl, by first | (simp only [AV.ren]; done) | (simp only [AV.ren]; rw [ec]; done) | rfl, rfl⟩, ⟨_, rfl, by first | (simp only [AV.ren]; done) | (simp only [AV.ren]; rw [ec]; done) | rfl, rfl⟩, ⟨_, rfl, by first | (simp only [AV.ren]; done) | (simp only [AV.ren]; rw [ec]; done) | rfl, rfl⟩, trivial⟩ ⟨⟨_, _, rfl, rfl, by first | (simp only [AV.ren]; done) | (simp only [AV.ren]; rw [ec]; done) | rfl, rfl, id, rfl⟩, ⟨_, _, rfl, rfl, by first | (simp only [AV.ren]; done) | (simp only [AV.ren]; rw [ec]; done) | rfl, rfl, id, rfl⟩, trivial⟩) ?_
  refine .seq ?_
  refine .region ?_
  refine .q (op_loadRow Tryd.underlying25 rfl sz25 rfl rfl rfl (by first | omega | (simp only [AV.len, length_mpU _ _ (4 * 4) (show 4 * 4 ≤ a.length by omega), ha]; done) | (simp only [AV.ren, AV.len, length_mpU _ _ (4 * 4) (show 4 * 4 ≤ a.length by omega), List.length_replicate, ha]; omega))) trivial rfl ?_
  refine .w (op_storeRow sz25 rfl rfl rfl rfl rfl (by first | omega | (simp only [AV.len, length_mpU _ _ (4 * 4) (show 4 * 4 ≤ a.length by omega), ha]; done) | (simp only [AV.ren, AV.len, length_mpU _ _ (4 * 4) (show 4 * 4 ≤ a.length by omega), List.length_replicate, ha]; omega)) (by first | omega | (simp only [AV.len, List.length_replicate]; done) | (simp only [AV.ren, AV.len, length_mpU _ _ (4 * 4) (show 4 * 4 ≤ a.length by omega), List.length_replicate, ha]; omega))) trivial rfl ?_
  refine .nil ?_
  show Ev _ _ _ _ _
  refine .ret ?_
  show RetOk _ _ _ _ _ _ _
  exact retc1 rfl (.inl rfl) ⟨_, _, _, _, rfl, rfl, (congrArg AV.aggB (mpU_all _ _ 16 ha)), rfl, (length_mxL a), Tryd.underlying25, rfl, sz25⟩ trivial
set_option maxRecDepth 100000 in
theorem unmix_ev (a : List UInt8) (ha : a.length = 16) : Meets Tryd.prog 28 [.aggB a] [] (.aggB (umL a)) [] := by
 refine meets_of_ev (nt := 7) Tryd.func28 rfl rfl (Nat.le_of_ble_eq_true rfl) ?_
 refine .seq ?_
 refine .region ?_
 refine .a (op_boxRow rfl rfl) trivial rfl ?_
 refine .a (op_allocRow zero25 rel_zero25 rfl) trivial rfl ?_
 refine .nil ?_
 show Ev _ _ _ _ _
 refine .seq ?_
 refine .region ?_
 refine .q (op_loadRow Tryd.underlying25 rfl sz25 rfl rfl rfl (by first | omega | (simp only [AV.len, ha]; done) | (simp only [AV.ren, AV.len, ha]; omega))) trivial rfl ?_
 refine .q (op_call (U := []) [] [] (mix_ev _ ha) Tryd.func24 (by kernel_rfl) rfl rfl rfl (⟨⟨_, rfl, rfl, rfl⟩, trivial⟩) (trivial) (trivial) (trivial) rfl) trivial rfl ?_
 refine .q (op_call (U := []) [] [] (mix_ev _ (length_mxL _)) Tryd.func24 (by kernel_rfl) rfl rfl rfl (⟨⟨_, rfl, rfl, rfl⟩, trivial⟩) (trivial) (trivial) (trivial) rfl) trivial rfl ?_
 refine .q (op_call (U := []) [] [] (mix_ev _ (length_mxL _)) Tryd.func24 (by kernel_rfl) rfl rfl rfl (⟨⟨_, rfl, rfl, rfl⟩, trivial⟩) (trivial) (trivial) (trivial) rfl) trivial rfl ?_
 refine .w (op_storeRow sz25 rfl rfl rfl rfl rfl (by first | omega | (simp only [AV.ren, AV.len, length_mxL]; done) | (simp only [AV.ren, AV.len, length_mxL, List.length_replicate]; omega)) (by first | omega | (simp only [AV.len, List.length_replicate]; done) | (simp only [AV.ren, AV.len, length_mxL, List.length_replicate]; omega))) trivial rfl ?_
 refine .nil ?_
 show Ev _ _ _ _ _
 refine .ret ?_
 show RetOk _ _ _ _ _ _ _
 exact retc1 rfl (.inl rfl) ⟨_, _, _, _, rfl, rfl, rfl, rfl, (length_mxL _), Tryd.underlying25, rfl, sz25⟩ trivial
set_option maxRecDepth 100000 in
theorem unshift_ev (a : List UInt8) (ha : a.length = 16) : Meets Tryd.prog 30 [.aggB a] [] (.aggB (usL a)) [] := by
 refine meets_of_ev (nt := 7) Tryd.func30 rfl rfl (Nat.le_of_ble_eq_true rfl) ?_
 refine .seq ?_
 refine .region ?_
 refine .a (op_boxRow rfl rfl) trivial rfl ?_
 refine .a (op_allocRow zero25 rel_zero25 rfl) trivial rfl ?_
 refine .nil ?_
 show Ev _ _ _ _ _
 refine .seq ?_
 refine .region ?_
 refine .q (op_loadRow Tryd.underlying25 rfl sz25 rfl rfl rfl (by first | omega | (simp only [AV.len, ha]; done) | (simp only [AV.ren, AV.len, ha]; omega))) trivial rfl ?_
 refine .q (op_call (U := []) [] [] (shift_ev _ ha) Tryd.func22 (by kernel_rfl) rfl rfl rfl (⟨⟨_, rfl, rfl, rfl⟩, trivial⟩) (trivial) (trivial) (trivial) rfl) trivial rfl ?_
 refine .q (op_call (U := []) [] [] (shift_ev _ (length_shL _)) Tryd.func22 (by kernel_rfl) rfl rfl rfl (⟨⟨_, rfl, rfl, rfl⟩, trivial⟩) (trivial) (trivial) (trivial) rfl) trivial rfl ?_
 refine .q (op_call (U := []) [] [] (shift_ev _ (length_shL _)) Tryd.func22 (by kernel_rfl) rfl rfl rfl (⟨⟨_, rfl, rfl, rfl⟩, trivial⟩) (trivial) (trivial) (trivial) rfl) trivial rfl ?_
 refine .w (op_storeRow sz25 rfl rfl rfl rfl rfl (by first | omega | (simp only [AV.ren, AV.len, length_shL]; done) | (simp only [AV.ren, AV.len, length_shL, List.length_replicate]; omega)) (by first | omega | (simp only [AV.len, List.length_replicate]; done) | (simp only [AV.ren, AV.len, length_shL, List.length_replicate]; omega))) trivial rfl ?_
 refine .nil ?_
 show Ev _ _ _ _ _
 refine .ret ?_
 show RetOk _ _ _ _ _ _ _
 exact retc1 rfl (.inl rfl) ⟨_, _, _, _, rfl, rfl, rfl, rfl, (length_shL _), Tryd.underlying25, rfl, sz25⟩ trivial
set_option maxRecDepth 100000 in
theorem replace_ev (bx ks a : List UInt8) (r : Int) (te : Nat) (hb : bx.length = 512) (hk : ks.length = 240) (ha : a.length = 16) : Meets Tryd.prog 23 [.ptr 500 0, .aggB a] [(500, some ⟨ciC bx r ks, te, false⟩)] (.aggB (sbL bx a)) [] := by
 refine meets_of_ev (nt := 21) Tryd.func23 rfl rfl (Nat.le_of_ble_eq_true rfl) ?_
 refine .seq ?_
 refine .region ?_
 refine .a (op_boxRow rfl rfl) trivial rfl ?_
 refine .a (op_allocRow zero25 rel_zero25 rfl) trivial rfl ?_
 refine .nil ?_
 show Ev _ _ _ _ _
 refine .seq ?_
 refine .seq ?_
 refine .region ?_
 refine .q (op_move rfl) trivial rfl ?_
 refine .nil ?_
 show Ev _ _ _ _ _
 refine .block ?_
 refine Ev.loop (ι := { j : Nat // j ≤ 16 }) (fun j => ⟨[(0, .ptr 500 0), (3, .ptr 1000 0), (4, .ptr 1008 0), (6, .i64 ((j.1 : Nat) : Int))], [(500, some ⟨ciC bx r ks, te, false⟩), (1000, some ⟨.aggB (mpU (fun i => bx.getD (a.getD i 0).toNat 0) a j.1), 25, true⟩), (1008, some ⟨.aggB (List.replicate 16 0), 25, true⟩)], 1016⟩) (fun j => 16 - j.1) ⟨0, Nat.zero_le _⟩ (StLe.mk [(1000, 1000), (1008, 1008)] rfl rfl ⟨⟨_, rfl, by first | rfl | (simp only [AV.ren]; congr 1; omega), rfl⟩, ⟨_, rfl, by first | rfl | (simp only [AV.ren]; congr 1; omega), rfl⟩, ⟨_, rfl, by first | rfl | (simp only [AV.ren]; congr 1; omega), rfl⟩, ⟨_, rfl, by first | rfl | (simp only [AV.ren]; congr 1; omega), rfl⟩, trivial⟩ ⟨⟨_, _, rfl, rfl, ren_ci _, rfl, id, nm_ci _⟩, ⟨_, _, rfl, rfl, by first | rfl | (simp only [AV.ren]; congr 1; omega), rfl, id, rfl⟩, ⟨_, _, rfl, rfl, by first | rfl | (simp only [AV.ren]; congr 1; omega), rfl, id, rfl⟩, trivial⟩) ?_
 rintro ⟨j, hj⟩
 dsimp only
 have hl := length_mpU (fun i => bx.getD (a.getD i 0).toNat 0) a j (by omega)
 have h8 := (a.getD j 0).toNat_lt
 refine .seq ?_
 refine .region ?_
 refine .q (op_cmpI rfl rfl rfl) trivial rfl ?_
 refine .nil ?_
 show Ev _ _ _ _ _
 refine .seq ?_
 refine .cond rfl (fun hc7 => ?_) (fun hc7 => ?_)
 ·simp only [decide_eq_true_eq] at hc7
  refine .skip ?_
  show Ev _ _ _ _ _
  refine .seq ?_
  refine .block ?_
  refine .seq ?_
  refine .region ?_
  refine .q (op_move rfl) trivial rfl ?_
  refine .q (op_assign rfl) trivial rfl ?_
  refine .nil ?_
  show Ev _ _ _ _ _
  refine .drawn [[], [], [], [2], [2, 3], [1], [1, 5], [1, 2, 3, 4, 5, 6], [1, 2, 3, 4, 5, 6, 7], [0, 1, 2, 3, 4, 5, 6, 7, 8], [0, 1, 2, 3, 4, 5, 6, 7, 8, 9]] [4, 8, 10] [10] (by kernel_rfl) (by kernel_rfl) rfl ?_
  show DK _ [0, 1, 2, 3, 4, 5, 6, 7, 8, 9, 10] _ _ _
  refine .q rfl (op_move rfl) trivial ?_
  refine .q rfl (op_move rfl) trivial ?_
  refine .q rfl (op_move rfl) trivial ?_
  refine .q rfl (ap_idx_arr Tryd.underlying25 inf5.sz rfl rfl rfl (by first | omega | (simp only [AV.len]; omega) | (simp only [AV.len, List.length_set]; omega) | assumption | (simp [AV.len]; done))) trivial ?_
  refine .q rfl (op_load Tryd.underlying5 rfl rfl rfl rfl (by simp only [AV.len, hl]; omega)) trivial ?_
  refine .as (.u8 (a.getD j 0)) (by rw [mpU_get _ _ _ _ (Nat.le_refl _)]) ?_
  refine .q rfl (op_nilCheck rfl) trivial ?_
  refine .q rfl (op_fieldAddr (m := 255) Tryd.underlying46 rfl (by kernel_rfl) rfl) trivial ?_
  refine .as (.ptr 500 0) rfl ?_
  refine .q rfl (op_idx_arr8 Tryd.underlying44 inf5.sz rfl rfl h8) trivial ?_
  refine .q rfl (op_load Tryd.underlying5 rfl rfl rfl (ci_bx hb (i := 0 + (a.getD j 0).toNat) (by omega)) (ci_lt hb hk (by omega))) trivial ?_
  refine .as (.u8 (bx.getD (a.getD j 0).toNat 0)) (by rw [Nat.zero_add]) ?_
  refine .q rfl (ap_idx_arr Tryd.underlying25 inf5.sz rfl rfl rfl (by first | omega | (simp only [AV.len]; omega) | (simp only [AV.len, List.length_set]; omega) | assumption | (simp [AV.len]; done))) trivial ?_
  refine .w rfl (op_store inf5.sz rfl rfl rfl rfl rfl (by simp only [AV.len, hl]; omega)) trivial rfl rfl ?_
  refine .nil ?_
  show Ev _ _ _ _ _
  refine .region ?_
  refine .q (op_addI rfl rfl ⟨by omega, by omega⟩) trivial rfl ?_
  refine .q (op_move rfl) trivial rfl ?_
  refine .nil ?_
  exact ⟨⟨j + 1, by omega⟩, by show 16 - (j + 1) < 16 - j; omega, StLe.mk [(1000, 1000), (1008, 1008)] rfl rfl ⟨⟨_, rfl, by first | rfl | (simp only [AV.ren]; congr 1; omega), rfl⟩, ⟨_, rfl, by first | rfl | (simp only [AV.ren]; congr 1; omega), rfl⟩, ⟨_, rfl, by first | rfl | (simp only [AV.ren]; congr 1; omega), rfl⟩, ⟨_, rfl, by first | rfl | (simp only [AV.ren]; congr 1; omega), rfl⟩, trivial⟩ ⟨⟨_, _, rfl, rfl, ren_ci _, rfl, id, nm_ci _⟩, ⟨_, _, rfl, rfl, by (simp only [AV.ren]; rw [mpU_set _ _ _ _ (by omega) (by rfl)]), rfl, id, rfl⟩, ⟨_, _, rfl, rfl, by first | rfl | (simp only [AV.ren]; congr 1; omega), rfl, id, rfl⟩, trivial⟩⟩
 ·simp only [decide_eq_false_iff_not] at hc7
  refine .exit ?_
  show Ev _ _ _ _ _
  have ej : j = 16 := by omega
  refine Ev.weak (st2 := ⟨[(0, .ptr 500 0), (3, .ptr 1000 0), (4, .ptr 1008 0), (6, .i64 (((16) : Nat) : Int))], [(500, some ⟨ciC bx r ks, te, false⟩), (1000, some ⟨.aggB (mpU (fun i => bx.getD (a.getD i 0).toNat 0) a (16)), 25, true⟩), (1008, some ⟨.aggB (List.replicate 16 0), 25, true⟩)], 1016⟩) (StLe.mk [(1000, 1000), (1008, 1008)] rfl rfl ⟨⟨_, rfl, by first | (simp only [AV.ren]; done) | (simp only [AV.ren]; rw [ej]; done) | rfl, rfl⟩, ⟨_, rfl, by first | (simp only [AV.ren]; done) | (simp only [AV.ren]; rw [ej]; done) | rfl, rfl⟩, ⟨_, rfl, by first | (simp only [AV.ren]; done) | (simp only [AV.ren]; rw [ej]; done) | rfl, rfl⟩, ⟨_, rfl, by first | (simp only [AV.ren]; done) | (simp only [AV.ren]; rw [ej]; done) | rfl, rfl⟩, trivial⟩ ⟨⟨_, _, rfl, rfl, ren_ci _, rfl, id, nm_ci _⟩, ⟨_, _, rfl, rfl, by first | (simp only [AV.ren]; done) | (simp only [AV.ren]; rw [ej]; done) | rfl, rfl, id, rfl⟩, ⟨_, _, rfl, rfl, by first | (simp only [AV.ren]; done) | (simp only [AV.ren]; rw [ej]; done) | rfl, rfl, id, rfl⟩, trivial⟩) ?_
  refine .seq ?_
  refine .region ?_
  refine .q (op_loadRow Tryd.underlying25 rfl sz25 rfl rfl rfl (by first | omega | (simp only [AV.len, length_mpU _ _ 16 (show 16 ≤ a.length by omega), ha]; done) | (simp only [AV.ren, AV.len, length_mpU _ _ 16 (show 16 ≤ a.length by omega), List.length_replicate, ha]; omega))) trivial rfl ?_
  refine .w (op_storeRow sz25 rfl rfl rfl rfl rfl (by first | omega | (simp only [AV.len, length_mpU _ _ 16 (show 16 ≤ a.length by omega), ha]; done) | (simp only [AV.ren, AV.len, length_mpU _ _ 16 (show 16 ≤ a.length by omega), List.length_replicate, ha]; omega)) (by first | omega | (simp only [AV.len, List.length_replicate]; done) | (simp only [AV.ren, AV.len, length_mpU _ _ 16 (show 16 ≤ a.length by omega), List.length_replicate, ha]; omega))) trivial rfl ?_
  refine .nil ?_
  show Ev _ _ _ _ _
  refine .ret ?_
  show RetOk _ _ _ _ _ _ _
  exact retc1 rfl (.inl rfl) ⟨_, _, _, _, rfl, rfl, (congrArg AV.aggB (mpU_all _ _ 16 ha)), rfl, (length_sbL _ _), Tryd.underlying25, rfl, sz25⟩ trivial
set_option maxRecDepth 100000 in
theorem restore_ev (bx ks a : List UInt8) (r : Int) (te : Nat) (hb : bx.length = 512) (hk : ks.length = 240) (ha : a.length = 16) : Meets Tryd.prog 29 [.ptr 500 0, .aggB a] [(500, some ⟨ciC bx r ks, te, false⟩)] (.aggB (rsL bx a)) [] := by
 refine meets_of_ev (nt := 21) Tryd.func29 rfl rfl (Nat.le_of_ble_eq_true rfl) ?_
 refine .seq ?_
 refine .region ?_
 refine .a (op_boxRow rfl rfl) trivial rfl ?_
 refine .a (op_allocRow zero25 rel_zero25 rfl) trivial rfl ?_
 refine .nil ?_
 show Ev _ _ _ _ _
 refine .seq ?_
 refine .seq ?_
 refine .region ?_
 refine .q (op_move rfl) trivial rfl ?_
 refine .nil ?_
 show Ev _ _ _ _ _
 refine .block ?_
 refine Ev.loop (ι := { j : Nat // j ≤ 16 }) (fun j => ⟨[(0, .ptr 500 0), (3, .ptr 1000 0), (4, .ptr 1008 0), (6, .i64 ((j.1 : Nat) : Int))], [(500, some ⟨ciC bx r ks, te, false⟩), (1000, some ⟨.aggB (mpU (fun i => bx.getD (256 + (a.getD i 0).toNat) 0) a j.1), 25, true⟩), (1008, some ⟨.aggB (List.replicate 16 0), 25, true⟩)], 1016⟩) (fun j => 16 - j.1) ⟨0, Nat.zero_le _⟩ (StLe.mk [(1000, 1000), (1008, 1008)] rfl rfl ⟨⟨_, rfl, by first | rfl | (simp only [AV.ren]; congr 1; omega), rfl⟩, ⟨_, rfl, by first | rfl | (simp only [AV.ren]; congr 1; omega), rfl⟩, ⟨_, rfl, by first | rfl | (simp only [AV.ren]; congr 1; omega), rfl⟩, ⟨_, rfl, by first | rfl | (simp only [AV.ren]; congr 1; omega), rfl⟩, trivial⟩ ⟨⟨_, _, rfl, rfl, ren_ci _, rfl, id, nm_ci _⟩, ⟨_, _, rfl, rfl, by first | rfl | (simp only [AV.ren]; congr 1; omega), rfl, id, rfl⟩, ⟨_, _, rfl, rfl, by first | rfl | (simp only [AV.ren]; congr 1; omega), rfl, id, rfl⟩, trivial⟩) ?_
 rintro ⟨j, hj⟩
 dsimp only
 have hl := length_mpU (fun i => bx.getD (256 + (a.getD i 0).toNat) 0) a j (by omega)
 have h8 := (a.getD j 0).toNat_lt
 refine .seq ?_
 refine .region ?_
 refine .q (op_cmpI rfl rfl rfl) trivial rfl ?_
 refine .nil ?_
 show Ev _ _ _ _ _
 refine .seq ?_
 refine .cond rfl (fun hc7 => ?_) (fun hc7 => ?_)
 ·simp only [decide_eq_true_eq] at hc7
  refine .skip ?_
  show Ev _ _ _ _ _
  refine .seq ?_
  refine .block ?_
  refine .seq ?_
  refine .region ?_
  refine .q (op_move rfl) trivial rfl ?_
  refine .q (op_assign rfl) trivial rfl ?_
  refine .nil ?_
  show Ev _ _ _ _ _
  refine .drawn [[], [], [], [2], [2, 3], [1], [1, 5], [1, 2, 3, 4, 5, 6], [1, 2, 3, 4, 5, 6, 7], [0, 1, 2, 3, 4, 5, 6, 7, 8], [0, 1, 2, 3, 4, 5, 6, 7, 8, 9]] [4, 8, 10] [10] (by kernel_rfl) (by kernel_rfl) rfl ?_
  show DK _ [0, 1, 2, 3, 4, 5, 6, 7, 8, 9, 10] _ _ _
  refine .q rfl (op_move rfl) trivial ?_
  refine .q rfl (op_move rfl) trivial ?_
  refine .q rfl (op_move rfl) trivial ?_
  refine .q rfl (ap_idx_arr Tryd.underlying25 inf5.sz rfl rfl rfl (by first | omega | (simp only [AV.len]; omega) | (simp only [AV.len, List.length_set]; omega) | assumption | (simp [AV.len]; done))) trivial ?_
  refine .q rfl (op_load Tryd.underlying5 rfl rfl rfl rfl (by simp only [AV.len, hl]; omega)) trivial ?_
  refine .as (.u8 (a.getD j 0)) (by rw [mpU_get _ _ _ _ (Nat.le_refl _)]) ?_
  refine .q rfl (op_nilCheck rfl) trivial ?_
  refine .q rfl (op_fieldAddr (m := 255) Tryd.underlying46 rfl (by kernel_rfl) rfl) trivial ?_
  refine .as (.ptr 500 256) rfl ?_
  refine .q rfl (op_idx_arr8 Tryd.underlying44 inf5.sz rfl rfl h8) trivial ?_
  refine .q rfl (op_load Tryd.underlying5 rfl rfl rfl (ci_bx hb (i := 256 + (a.getD j 0).toNat) (by omega)) (ci_lt hb hk (by omega))) trivial ?_
  refine .q rfl (ap_idx_arr Tryd.underlying25 inf5.sz rfl rfl rfl (by first | omega | (simp only [AV.len]; omega) | (simp only [AV.len, List.length_set]; omega) | assumption | (simp [AV.len]; done))) trivial ?_
  refine .w rfl (op_store inf5.sz rfl rfl rfl rfl rfl (by simp only [AV.len, hl]; omega)) trivial rfl rfl ?_
  refine .nil ?_
  show Ev _ _ _ _ _
  refine .region ?_
  refine .q (op_addI rfl rfl ⟨by omega, by omega⟩) trivial rfl ?_
  refine .q (op_move rfl) trivial rfl ?_
  refine .nil ?_
  exact ⟨⟨j + 1, by omega⟩, by show 16 - (j + 1) < 16 - j; omega, StLe.mk [(1000, 1000), (1008, 1008)] rfl rfl ⟨⟨_, rfl, by first | rfl | (simp only [AV.ren]; congr 1; omega), rfl⟩, ⟨_, rfl, by first | rfl | (simp only [AV.ren]; congr 1; omega), rfl⟩, ⟨_, rfl, by first | rfl | (simp only [AV.ren]; congr 1; omega), rfl⟩, ⟨_, rfl, by first | rfl | (simp only [AV.ren]; congr 1; omega), rfl⟩, trivial⟩ ⟨⟨_, _, rfl, rfl, ren_ci _, rfl, id, nm_ci _⟩, ⟨_, _, rfl, rfl, by (simp only [AV.ren]; rw [mpU_set _ _ _ _ (by omega) (by rfl)]), rfl, id, rfl⟩, ⟨_, _, rfl, rfl, by first | rfl | (simp only [AV.ren]; congr 1; omega), rfl, id, rfl⟩, trivial⟩⟩
 ·simp only [decide_eq_false_iff_not] at hc7
  refine .exit ?_
  show Ev _ _ _ _ _
  have ej : j = 16 := by omega
  refine Ev.weak (st2 := ⟨[(0, .ptr 500 0), (3, .ptr 1000 0), (4, .ptr 1008 0), (6, .i64 (((16) : Nat) : Int))], [(500, some ⟨ciC bx r ks, te, false⟩), (1000, some ⟨.aggB (mpU (fun i => bx.getD (256 + (a.getD i 0).toNat) 0) a (16)), 25, true⟩), (1008, some ⟨.aggB (List.replicate 16 0), 25, true⟩)], 1016⟩) (StLe.mk [(1000, 1000), (1008, 1008)] rfl rfl ⟨⟨_, rfl, by first | (simp only [AV.ren]; done) | (simp only [AV.ren]; rw [ej]; done) | rfl, rfl⟩, ⟨_, rfl, by first | (simp only [AV.ren]; done) | (simp only [AV.ren]; rw [ej]; done) | rfl, rfl⟩, ⟨_, rfl, by first | (simp only [AV.ren]; done) | (simp only [AV.ren]; rw [ej]; done) | rfl, rfl⟩, ⟨_, rfl, by first | (simp only [AV.ren]; done) | (simp only [AV.ren]; rw [ej]; done) | rfl, rfl⟩, trivial⟩ ⟨⟨_, _, rfl, rfl, ren_ci _, rfl, id, nm_ci _⟩, ⟨_, _, rfl, rfl, by first | (simp only [AV.ren]; done) | (simp only [AV.ren]; rw [ej]; done) | rfl, rfl, id, rfl⟩, ⟨_, _, rfl, rfl, by first | (simp only [AV.ren]; done) | (simp only [AV.ren]; rw [ej]; done) | rfl, rfl, id, rfl⟩, trivial⟩) ?_
  refine .seq ?_
  refine .region ?_
  refine .q (op_loadRow Tryd.underlying25 rfl sz25 rfl rfl rfl (by first | omega | (simp only [AV.len, length_mpU _ _ 16 (show 16 ≤ a.length by omega), ha]; done) | (simp only [AV.ren, AV.len, length_mpU _ _ 16 (show 16 ≤ a.length by omega), List.length_replicate, ha]; omega))) trivial rfl ?_
  refine .w (op_storeRow sz25 rfl rfl rfl rfl rfl (by first | omega | (simp only [AV.len, length_mpU _ _ 16 (show 16 ≤ a.length by omega), ha]; done) | (simp only [AV.ren, AV.len, length_mpU _ _ 16 (show 16 ≤ a.length by omega), List.length_replicate, ha]; omega)) (by first | omega | (simp only [AV.len, List.length_replicate]; done) | (simp only [AV.ren, AV.len, length_mpU _ _ 16 (show 16 ≤ a.length by omega), List.length_replicate, ha]; omega))) trivial rfl ?_
  refine .nil ?_
  show Ev _ _ _ _ _
  refine .ret ?_
  show RetOk _ _ _ _ _ _ _
  exact retc1 rfl (.inl rfl) ⟨_, _, _, _, rfl, rfl, (congrArg AV.aggB (mpU_all _ _ 16 ha)), rfl, (length_rsL _ _), Tryd.underlying25, rfl, sz25⟩ trivial
set_option maxRecDepth 100000 in
theorem rword_ev (bx ks a : List UInt8) (r : Int) (te : Nat) (hb : bx.length = 512) (hk : ks.length = 240) (ha : a.length = 4) : Meets Tryd.prog 36 [.ptr 500 0, .aggB a] [(500, some ⟨ciC bx r ks, te, false⟩)] (.aggB (swL bx a)) [] := by
 refine meets_of_ev (nt := 21) Tryd.func36 rfl rfl (Nat.le_of_ble_eq_true rfl) ?_
 refine .seq ?_
 refine .region ?_
 refine .a (op_boxRow rfl rfl) trivial rfl ?_
 refine .a (op_allocRow zero62 rel_zero62 rfl) trivial rfl ?_
 refine .nil ?_
 show Ev _ _ _ _ _
 refine .seq ?_
 refine .seq ?_
 refine .region ?_
 refine .q (op_move rfl) trivial rfl ?_
 refine .nil ?_
 show Ev _ _ _ _ _
 refine .block ?_
 refine Ev.loop (ι := { j : Nat // j ≤ 4 }) (fun j => ⟨[(0, .ptr 500 0), (3, .ptr 1000 0), (4, .ptr 1008 0), (6, .i64 ((j.1 : Nat) : Int))], [(500, some ⟨ciC bx r ks, te, false⟩), (1000, some ⟨.aggB (mpU (fun i => bx.getD (a.getD i 0).toNat 0) a j.1), 62, true⟩), (1008, some ⟨.aggB (List.replicate 4 0), 62, true⟩)], 1016⟩) (fun j => 4 - j.1) ⟨0, Nat.zero_le _⟩ (StLe.mk [(1000, 1000), (1008, 1008)] rfl rfl ⟨⟨_, rfl, by first | rfl | (simp only [AV.ren]; congr 1; omega), rfl⟩, ⟨_, rfl, by first | rfl | (simp only [AV.ren]; congr 1; omega), rfl⟩, ⟨_, rfl, by first | rfl | (simp only [AV.ren]; congr 1; omega), rfl⟩, ⟨_, rfl, by first | rfl | (simp only [AV.ren]; congr 1; omega), rfl⟩, trivial⟩ ⟨⟨_, _, rfl, rfl, ren_ci _, rfl, id, nm_ci _⟩, ⟨_, _, rfl, rfl, by first | rfl | (simp only [AV.ren]; congr 1; omega), rfl, id, rfl⟩, ⟨_, _, rfl, rfl, by first | rfl | (simp only [AV.ren]; congr 1; omega), rfl, id, rfl⟩, trivial⟩) ?_
 rintro ⟨j, hj⟩
 dsimp only
 have hl := length_mpU (fun i => bx.getD (a.getD i 0).toNat 0) a j (by omega)
 have h8 := (a.getD j 0).toNat_lt
 refine .seq ?_
 refine .region ?_
 refine .q (op_cmpI rfl rfl rfl) trivial rfl ?_
 refine .nil ?_
 show Ev _ _ _ _ _
 refine .seq ?_
 refine .cond rfl (fun hc7 => ?_) (fun hc7 => ?_)
 ·simp only [decide_eq_true_eq] at hc7
  refine .skip ?_
  show Ev _ _ _ _ _
  refine .seq ?_
  refine .block ?_
  refine .seq ?_
  refine .region ?_
  refine .q (op_move rfl) trivial rfl ?_
  refine .q (op_assign rfl) trivial rfl ?_
  refine .nil ?_
  show Ev _ _ _ _ _
  refine .drawn [[], [], [], [2], [2, 3], [1], [1, 5], [1, 2, 3, 4, 5, 6], [1, 2, 3, 4, 5, 6, 7], [0, 1, 2, 3, 4, 5, 6, 7, 8], [0, 1, 2, 3, 4, 5, 6, 7, 8, 9]] [4, 8, 10] [10] (by kernel_rfl) (by kernel_rfl) rfl ?_
  show DK _ [0, 1, 2, 3, 4, 5, 6, 7, 8, 9, 10] _ _ _
  refine .q rfl (op_move rfl) trivial ?_
  refine .q rfl (op_move rfl) trivial ?_
  refine .q rfl (op_move rfl) trivial ?_
  refine .q rfl (ap_idx_arr Tryd.underlying62 inf5.sz rfl rfl rfl (by first | omega | (simp only [AV.len]; omega) | (simp only [AV.len, List.length_set]; omega) | assumption | (simp [AV.len]; done))) trivial ?_
  refine .q rfl (op_load Tryd.underlying5 rfl rfl rfl rfl (by simp only [AV.len, hl]; omega)) trivial ?_
  refine .as (.u8 (a.getD j 0)) (by rw [mpU_get _ _ _ _ (Nat.le_refl _)]) ?_
  refine .q rfl (op_nilCheck rfl) trivial ?_
  refine .q rfl (op_fieldAddr (m := 255) Tryd.underlying46 rfl (by kernel_rfl) rfl) trivial ?_
  refine .as (.ptr 500 0) rfl ?_
  refine .q rfl (op_idx_arr8 Tryd.underlying44 inf5.sz rfl rfl h8) trivial ?_
  refine .q rfl (op_load Tryd.underlying5 rfl rfl rfl (ci_bx hb (i := 0 + (a.getD j 0).toNat) (by omega)) (ci_lt hb hk (by omega))) trivial ?_
  refine .as (.u8 (bx.getD (a.getD j 0).toNat 0)) (by rw [Nat.zero_add]) ?_
  refine .q rfl (ap_idx_arr Tryd.underlying62 inf5.sz rfl rfl rfl (by first | omega | (simp only [AV.len]; omega) | (simp only [AV.len, List.length_set]; omega) | assumption | (simp [AV.len]; done))) trivial ?_
  refine .w rfl (op_store inf5.sz rfl rfl rfl rfl rfl (by simp only [AV.len, hl]; omega)) trivial rfl rfl ?_
  refine .nil ?_
  show Ev _ _ _ _ _
  refine .region ?_
  refine .q (op_addI rfl rfl ⟨by omega, by omega⟩) trivial rfl ?_
  refine .q (op_move rfl) trivial rfl ?_
  refine .nil ?_
  exact ⟨⟨j + 1, by omega⟩, by show 4 - (j + 1) < 4 - j; omega, StLe.mk [(1000, 1000), (1008, 1008)] rfl rfl ⟨⟨_, rfl, by first | rfl | (simp only [AV.ren]; congr 1; omega), rfl⟩, ⟨_, rfl, by first | rfl | (simp only [AV.ren]; congr 1; omega), rfl⟩, ⟨_, rfl, by first | rfl | (simp only [AV.ren]; congr 1; omega), rfl⟩, ⟨_, rfl, by first | rfl | (simp only [AV.ren]; congr 1; omega), rfl⟩, trivial⟩ ⟨⟨_, _, rfl, rfl, ren_ci _, rfl, id, nm_ci _⟩, ⟨_, _, rfl, rfl, by (simp only [AV.ren]; rw [mpU_set _ _ _ _ (by omega) (by rfl)]), rfl, id, rfl⟩, ⟨_, _, rfl, rfl, by first | rfl | (simp only [AV.ren]; congr 1; omega), rfl, id, rfl⟩, trivial⟩⟩
 ·simp only [decide_eq_false_iff_not] at hc7
  refine .exit ?_
  show Ev _ _ _ _ _
  have ej : j = 4 := by omega
  refine Ev.weak (st2 := ⟨[(0, .ptr 500 0), (3, .ptr 1000 0), (4, .ptr 1008 0), (6, .i64 (((4) : Nat) : Int))], [(500, some ⟨ciC bx r ks, te, false⟩), (1000, some ⟨.aggB (mpU (fun i => bx.getD (a.getD i 0).toNat 0) a (4)), 62, true⟩), (1008, some ⟨.aggB (List.replicate 4 0), 62, true⟩)], 1016⟩) (StLe.mk [(1000, 1000), (1008, 1008)] rfl rfl ⟨⟨_, rfl, by first | (simp only [AV.ren]; done) | (simp only [AV.ren]; rw [ej]; done) | rfl, rfl⟩, ⟨_, rfl, by first | (simp only [AV.ren]; done) | (simp only [AV.ren]; rw [ej]; done) | rfl, rfl⟩, ⟨_, rfl, by first | (simp only [AV.ren]; done) | (simp only [AV.ren]; rw [ej]; done) | rfl, rfl⟩, ⟨_, rfl, by first | (simp only [AV.ren]; done) | (simp only [AV.ren]; rw [ej]; done) | rfl, rfl⟩, trivial⟩ ⟨⟨_, _, rfl, rfl, ren_ci _, rfl, id, nm_ci _⟩, ⟨_, _, rfl, rfl, by first | (simp only [AV.ren]; done) | (simp only [AV.ren]; rw [ej]; done) | rfl, rfl, id, rfl⟩, ⟨_, _, rfl, rfl, by first | (simp only [AV.ren]; done) | (simp only [AV.ren]; rw [ej]; done) | rfl, rfl, id, rfl⟩, trivial⟩) ?_
  refine .seq ?_
  refine .region ?_
  refine .q (op_loadRow Tryd.underlying62 rfl sz62 rfl rfl rfl (by first | omega | (simp only [AV.len, length_mpU _ _ 4 (show 4 ≤ a.length by omega), ha]; done) | (simp only [AV.ren, AV.len, length_mpU _ _ 4 (show 4 ≤ a.length by omega), List.length_replicate, ha]; omega))) trivial rfl ?_
  refine .w (op_storeRow sz62 rfl rfl rfl rfl rfl (by first | omega | (simp only [AV.len, length_mpU _ _ 4 (show 4 ≤ a.length by omega), ha]; done) | (simp only [AV.ren, AV.len, length_mpU _ _ 4 (show 4 ≤ a.length by omega), List.length_replicate, ha]; omega)) (by first | omega | (simp only [AV.len, List.length_replicate]; done) | (simp only [AV.ren, AV.len, length_mpU _ _ 4 (show 4 ≤ a.length by omega), List.length_replicate, ha]; omega))) trivial rfl ?_
  refine .nil ?_
  show Ev _ _ _ _ _
  refine .ret ?_
  show RetOk _ _ _ _ _ _ _
  exact retc1 rfl (.inl rfl) ⟨_, _, _, _, rfl, rfl, (congrArg AV.aggB (mpU_all _ _ 4 ha)), rfl, (length_swL _ _), Tryd.underlying62, rfl, sz62⟩ trivial
set_option maxRecDepth 100000 in
theorem next_ev (l : List UInt8) (ha : l.length = 16) : Meets Tryd.prog 31 [.aggB l] [] (.aggB (nxL l)) [] := by
 refine meets_of_ev (nt := 21) Tryd.func31 rfl rfl (Nat.le_of_ble_eq_true rfl) ?_
 refine .seq ?_
 refine .region ?_
 refine .a (op_boxRow rfl rfl) trivial rfl ?_
 refine .a (op_allocRow zero25 rel_zero25 rfl) trivial rfl ?_
 refine .nil ?_
 show Ev _ _ _ _ _
 refine .seq ?_
 refine .seq ?_
 refine .region ?_
 refine .q (op_move rfl) trivial rfl ?_
 refine .nil ?_
 show Ev _ _ _ _ _
 refine .block ?_
 refine Ev.loop (ι := { p : Nat × List UInt8 // p.2.length = 16 ∧ p.1 ≤ 16 ∧ nxG p.1 p.2 = nxL l }) (fun q => ⟨[(1, .ptr 1000 0), (2, .ptr 1008 0), (5, .i64 ((16 - q.1.1 : Nat) : Int))], [(1000, some ⟨.aggB q.1.2, 25, true⟩), (1008, some ⟨.aggB (List.replicate 16 0), 25, true⟩)], 1016⟩) (fun q => q.1.1) ⟨(16, l), ha, Nat.le_refl _, rfl⟩ (StLe.mk [(1000, 1000), (1008, 1008)] rfl rfl ⟨⟨_, rfl, by first | rfl | (simp only [AV.ren]; congr 1; omega), rfl⟩, ⟨_, rfl, by first | rfl | (simp only [AV.ren]; congr 1; omega), rfl⟩, ⟨_, rfl, by first | rfl | (simp only [AV.ren]; congr 1; omega), rfl⟩, trivial⟩ ⟨⟨_, _, rfl, rfl, rfl, rfl, id, rfl⟩, ⟨_, _, rfl, rfl, rfl, rfl, id, rfl⟩, trivial⟩) ?_
 rintro ⟨⟨k, m⟩, hm, hk, he⟩
 try dsimp only
 replace hm : m.length = 16 := hm
 replace hk : k ≤ 16 := hk
 replace he : nxG k m = nxL l := he
 refine .seq ?_
 refine .region ?_
 refine .q (op_cmpI rfl rfl rfl) trivial rfl ?_
 refine .nil ?_
 show Ev _ _ _ _ _
 refine .seq ?_
 refine .cond rfl (fun hc6 => ?_) (fun hc6 => ?_)
 ·simp only [decide_eq_true_eq] at hc6
  refine .skip ?_
  show Ev _ _ _ _ _
  refine .seq ?_
  refine .block ?_
  refine .seq ?_
  refine .region ?_
  refine .q (op_move rfl) trivial rfl ?_
  refine .q (op_assign rfl) trivial rfl ?_
  refine .nil ?_
  show Ev _ _ _ _ _
  refine .seq ?_
  refine .region ?_
  refine .q (op_move rfl) trivial rfl ?_
  refine .q (op_subI rfl rfl ⟨by omega, by omega⟩) trivial rfl ?_
  refine .q (op_assign rfl) trivial rfl ?_
  refine .nil ?_
  show Ev _ _ _ _ _
  refine .seq ?_
  refine .region ?_
  refine .q (op_move rfl) trivial rfl ?_
  refine .q (ap_idx_arr Tryd.underlying25 inf5.sz rfl rfl (i := k - 1) (by omega) (by first | omega | (simp only [AV.len]; omega) | (simp only [AV.len, List.length_set]; omega) | assumption | (simp [AV.len]; done))) trivial rfl ?_
  refine .q (op_load Tryd.underlying5 rfl rfl rfl rfl (by simp only [AV.len]; omega)) trivial rfl ?_
  refine .q (op_bin8 rfl rfl rfl) trivial rfl ?_
  refine .q (ap_idx_arr Tryd.underlying25 inf5.sz rfl rfl (i := k - 1) (by omega) (by first | omega | (simp only [AV.len]; omega) | (simp only [AV.len, List.length_set]; omega) | assumption | (simp [AV.len]; done))) trivial rfl ?_
  refine .w (op_store inf5.sz rfl rfl rfl rfl rfl (by simp only [AV.len]; omega)) trivial rfl ?_
  refine .nil ?_
  show Ev _ _ _ _ _
  refine .seq ?_
  refine .region ?_
  refine .q (op_move rfl) trivial rfl ?_
  refine .q (ap_idx_arr Tryd.underlying25 inf5.sz rfl rfl (i := k - 1) (by omega) (by first | omega | (simp only [AV.len]; omega) | (simp only [AV.len, List.length_set]; omega) | assumption | (simp [AV.len]; done))) trivial rfl ?_
  refine .q (op_load Tryd.underlying5 rfl rfl rfl rfl (by simp only [AV.len, List.length_set]; omega)) trivial rfl ?_
  refine .as (.u8 (m.getD (k - 1) 0 + 1)) (by rw [getD_set_same _ _ _ _ (by omega)]; rfl) ?_
  refine .q (op_bin8 rfl rfl rfl) trivial rfl ?_
  refine .nil ?_
  show Ev _ _ _ _ _
  refine .cond rfl (fun hc18 => ?_) (fun hc18 => ?_)
  ·simp only [bne_iff_ne, ne_eq] at hc18
   refine .exit ?_
   show Ev _ _ _ _ _
   refine .seq ?_
   refine .region ?_
   refine .q (op_loadRow Tryd.underlying25 rfl sz25 rfl rfl rfl (by first | omega | (simp only [AV.len, List.length_set, hm]; done) | (simp only [AV.ren, AV.len, List.length_set, List.length_replicate, hm]; omega))) trivial rfl ?_
   refine .w (op_storeRow sz25 rfl rfl rfl rfl rfl (by first | omega | (simp only [AV.len, List.length_set, hm]; done) | (simp only [AV.ren, AV.len, List.length_set, List.length_replicate, hm]; omega)) (by first | omega | (simp only [AV.len, List.length_replicate]; done) | (simp only [AV.ren, AV.len, List.length_set, List.length_replicate, hm]; omega))) trivial rfl ?_
   refine .nil ?_
   show Ev _ _ _ _ _
   refine .ret ?_
   show RetOk _ _ _ _ _ _ _
   first
    | exact retc1 rfl (.inl rfl) ⟨_, _, _, _, rfl, rfl, (congrArg AV.aggB (by show _ = nxL l; rw [← he]; (conv => rhs; rw [show k = (k - 1) + 1 by omega]); rw [nxG, if_neg (by simpa using hc18)]; rfl)), rfl, ((length_nxL l).trans ha), Tryd.underlying25, rfl, sz25⟩ trivial
    | exact retc1 rfl (.inl rfl) ⟨_, _, _, _, rfl, rfl, (congrArg AV.aggB (by show _ = nxL l; rw [← he, show k = 0 by omega]; rfl)), rfl, ((length_nxL l).trans ha), Tryd.underlying25, rfl, sz25⟩ trivial
  ·simp only [bne_eq_false_iff_eq] at hc18
   refine .skip ?_
   show Ev _ _ _ _ _
   refine .region ?_
   refine .q (op_addI rfl rfl ⟨by omega, by omega⟩) trivial rfl ?_
   refine .q (op_move rfl) trivial rfl ?_
   refine .nil ?_
   exact ⟨⟨(k - 1, m.set (k - 1) (m.getD (k - 1) 0 + 1)), by rw [List.length_set]; exact hm, by omega, by rw [← he]; (conv => rhs; rw [show k = (k - 1) + 1 by omega]); rw [nxG, if_pos (by simpa using hc18)]⟩, by (try dsimp only); omega, StLe.mk [(1000, 1000), (1008, 1008)] rfl rfl ⟨⟨_, rfl, by rfl, rfl⟩, ⟨_, rfl, by rfl, rfl⟩, ⟨_, rfl, by (simp only [AV.ren]; congr 1; omega), rfl⟩, trivial⟩ ⟨⟨_, _, rfl, rfl, rfl, rfl, id, rfl⟩, ⟨_, _, rfl, rfl, rfl, rfl, id, rfl⟩, trivial⟩⟩
 ·simp only [decide_eq_false_iff_not] at hc6
  refine .exit ?_
  show Ev _ _ _ _ _
  refine .seq ?_
  refine .region ?_
  refine .q (op_loadRow Tryd.underlying25 rfl sz25 rfl rfl rfl (by first | omega | (simp only [AV.len, hm]; done) | (simp only [AV.ren, AV.len, List.length_set, List.length_replicate, hm]; omega))) trivial rfl ?_
  refine .w (op_storeRow sz25 rfl rfl rfl rfl rfl (by first | omega | (simp only [AV.len, hm]; done) | (simp only [AV.ren, AV.len, List.length_set, List.length_replicate, hm]; omega)) (by first | omega | (simp only [AV.len, List.length_replicate]; done) | (simp only [AV.ren, AV.len, List.length_set, List.length_replicate, hm]; omega))) trivial rfl ?_
  refine .nil ?_
  show Ev _ _ _ _ _
  refine .ret ?_
  show RetOk _ _ _ _ _ _ _
  first
   | exact retc1 rfl (.inl rfl) ⟨_, _, _, _, rfl, rfl, (congrArg AV.aggB (by show _ = nxL l; rw [← he]; (conv => rhs; rw [show k = (k - 1) + 1 by omega]); rw [nxG, if_neg (by simpa using hc18)]; rfl)), rfl, ((length_nxL l).trans ha), Tryd.underlying25, rfl, sz25⟩ trivial
   | exact retc1 rfl (.inl rfl) ⟨_, _, _, _, rfl, rfl, (congrArg AV.aggB (by show _ = nxL l; rw [← he, show k = 0 by omega]; rfl)), rfl, ((length_nxL l).trans ha), Tryd.underlying25, rfl, sz25⟩ trivial
end Go.Proofs.YtdpdmgbdipokdaaDoor
