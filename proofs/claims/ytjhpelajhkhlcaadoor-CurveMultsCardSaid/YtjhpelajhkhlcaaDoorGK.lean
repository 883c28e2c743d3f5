/-
  The ladder on Curve25519 of the program and of the reference, walked; the law on products.
-/
import Derived.Test.YtjhpelajhkhlcaaDoorGE
import Derived.Test.YtjhpelajhkhlcaaDoorGF
import Derived.Test.YtjhpelajhkhlcaaDoorGI
import Derived.Test.YtjhpelajhkhlcaaDoorGQ
namespace Go.Proofs.YtjhpelajhkhlcaaDoor
open Go.RowKit
section
variable {P : Program} {T : Nat → Option AV} {H : Hp} {nm : Nat} {wr : Bool} {d : Option Tmp} {ty t : TypeId} {ps : String} {af : Array Edge} {gd : Option (Nat × Bool)}
/-- A part of a row. -/
theorem op_loadPart {dd : TypeDesc} {x : Operand} {b o m : Nat} {k : ABlk} {r : AV} {cs : List AV} (hu : P.underlying t = some dd) (hna : (match dd with | .struct _ | .array _ _ => true | _ => false) = true) (hz : (P.info? t).map (·.size) = some m) (hx : aev T x = some (.ptr b o)) (hk : H b = some k) (hc : r.parts = some cs) (hm : cs.length = m) (hr : cs = (k.c.list.drop o).take m) (hlt : o + m ≤ k.c.len) :
    OpSem P T H ⟨d, .load t x, ty, ps, af, gd⟩ nm wr r [] :=
  .reads fun E S a w h hR => by
    obtain ⟨l, s, h1, h2⟩ := (h x mem1 _ hx).ptr_inv
    obtain ⟨l', s', h3, h4⟩ := hR.blk b k hk
    rw [h1] at h3; injection h3 with h3; injection h3 with e1 e2; subst e1; subst e2
    obtain ⟨arr, fz, g1, g2, g3, g4, g5⟩ := h4
    have hkl : k.c.list.length = k.c.len := len_list _
    have hload := run_loadCells_list (P := P) w ⟨l, o, none⟩ ((arr.toList.drop o).take m) (fun j v hj => by
      rw [add_at, cell_of_row w l (o + j) arr k.elem fz g1]
      rw [List.getElem?_take] at hj
      split at hj
      · rw [List.getElem?_drop] at hj; simpa using hj
      · cases hj)
    have hlen2 : ((arr.toList.drop o).take m).length = m := by simp; omega
    rw [hlen2] at hload
    refine ⟨.agg ((arr.toList.drop o).take m).toArray, ?_, ?_⟩
    · simp [execOp, h2, Instr.loadAt, Instr.sureAddr, loadVar, run_isAgg_yes hu hna, run_sizeOf_is hz, hload]
    · have key : ∀ (i : Nat) x, cs[i]? = some x → i < m ∧ k.c.list[o + i]? = some x := fun i x hx => by
        have hi : i < m := by rw [← hm]; exact (List.getElem?_eq_some_iff.1 hx).1
        rw [hr, List.getElem?_take, if_pos hi, List.getElem?_drop] at hx
        exact ⟨hi, hx⟩
      refine .agg _ cs _ hc (by simp; omega) (fun x hx => ?_) (fun i x y hx hy => ?_)
      · obtain ⟨i, hi, rfl⟩ := List.mem_iff_getElem.1 hx
        exact (g5 (o + i) _ (key i _ (List.getElem?_eq_getElem hi)).2).1
      · obtain ⟨hi, hx2⟩ := key i x hx
        obtain ⟨_, y', h6, h7⟩ := g5 (o + i) x hx2
        simp only [List.getElem?_toArray, List.getElem?_take, hi, if_true, List.getElem?_drop] at hy
        rw [Array.getElem?_toList, h6] at hy
        injection hy with hy; subst hy; exact h7
theorem foldset_app (xs ys zc : Array Value) (h : zc.size = xs.size + ys.size) : (ys.zipIdx.foldl (fun cs x => cs.setIfInBounds (xs.size + x.2) x.1) (xs.zipIdx.foldl (fun cs x => cs.setIfInBounds x.2 x.1) zc)) = xs ++ ys := by
  have e : ∀ (l : List Value) (k n : Nat) (cs : Array Value), (l.zipIdx k).foldl (fun cs x => cs.setIfInBounds (n + x.2) x.1) cs = (l.zipIdx (n + k)).foldl (fun cs x => cs.setIfInBounds x.2 x.1) cs := by
    intro l
    induction l with
    | nil => intro k n cs; rfl
    | cons a l ih => intro k n cs; simp only [List.zipIdx_cons, List.foldl_cons]; rw [ih (k + 1) n]; rfl
  rw [← Array.foldl_toList, ← Array.foldl_toList, Array.toList_zipIdx, Array.toList_zipIdx, e ys.toList 0 xs.size]
  obtain ⟨h1, h2⟩ := foldset xs.toList 0 zc (by simp; omega)
  obtain ⟨_, h4⟩ := foldset ys.toList xs.size ((xs.toList.zipIdx 0).foldl (fun cs x => cs.setIfInBounds x.2 x.1) zc) (by rw [h1]; simp; omega)
  refine Array.ext_getElem? fun i => ?_
  rw [Nat.add_zero, h4 i]
  by_cases c : xs.size ≤ i ∧ i < xs.size + ys.toList.length
  · rw [if_pos c, Array.getElem?_append_right c.1]; simp
  · rw [if_neg c, h2 i]
    by_cases c2 : i < xs.size
    · rw [if_pos (by simp; omega), Array.getElem?_append_left c2]; simp
    · rw [if_neg (by simp; omega), Array.getElem?_eq_none (by simp at c; omega), Array.getElem?_eq_none (by simp at c ⊢; omega)]
theorem agg64_app {E : Emb} {a b : List UInt64} {da db : Array Value} (ha : Rel E (.agg64 a) (.agg da)) (hb : Rel E (.agg64 b) (.agg db)) : Rel E (.agg64 (a ++ b)) (.agg (da ++ db)) := by
  have ea := row64_inv ha
  have eb := row64_inv hb
  injection ea with ea; injection eb with eb
  subst ea; subst eb
  have e : (.agg (((a.map fun x => (x.toNat : Int)).map (Value.int .u64)).toArray ++ ((b.map fun x => (x.toNat : Int)).map (Value.int .u64)).toArray) : Value) = .agg (((a ++ b).map fun x => (x.toNat : Int)).map (Value.int .u64)).toArray := by simp
  rw [e]
  refine .agg _ ((a ++ b).map .u64) _ rfl (by simp) (fun x hx => ?_) (fun i x y hx hy => ?_)
  · obtain ⟨z, _, rfl⟩ := List.mem_map.1 hx; rfl
  · obtain ⟨z, hz, rfl⟩ := get_map_some (l := a ++ b) hx
    rw [List.getElem?_toArray, List.getElem?_map, List.getElem?_map, hz] at hy
    simp only [Option.map_some, Option.some.injEq] at hy
    subst hy; exact .u64 _
/-- A struct of two rows. -/
theorem op_buildPair {zc : Array Value} {x y : Operand} {l r : List UInt64} {f g : Field} (hu : P.underlying t = some (.struct #[f, g])) (ho : f.offset = 0) (ho2 : g.offset = l.length) (hf : (P.info? f.type).map (·.size) = some l.length) (hg : (P.info? g.type).map (·.size) = some r.length) (hz : (P.info? t).map (·.zero) = some (some (.agg zc))) (hs : zc.size = l.length + r.length) (hx : aev T x = some (.agg64 l)) (hy : aev T y = some (.agg64 r)) :
    OpSem P T H ⟨d, .build t #[(0, x), (1, y)], ty, ps, af, gd⟩ nm wr (.agg64 (l ++ r)) [] :=
  .quiet fun E a w h => by
    have h1 := h x (by simp [Op.operands]) _ hx
    have h2 := h y (by simp [Op.operands]) _ hy
    obtain ⟨dl', hd, hl, _⟩ := h1.agg_inv (cs := l.map .u64) rfl
    obtain ⟨dr, hd2, hl2, _⟩ := h2.agg_inv (cs := r.map .u64) rfl
    have hl : dl'.size = l.length := by rw [← hl]; simp
    have hl2 : dr.size = r.length := by rw [← hl2]; simp
    rw [hd] at h1; rw [hd2] at h2
    refine ⟨.agg (dl' ++ dr), ?_, agg64_app h1 h2⟩
    have key := foldset_app dl' dr zc (by omega)
    have e : Instr.fill (fun i => (#[(f.offset, l.length), (g.offset, r.length)] : Array (Nat × Nat))[i]?) zc [(0, .agg dl'), (1, .agg dr)] = some (dl' ++ dr) := by
      have s1 : (dl'.zipIdx.foldl (fun cs x => cs.setIfInBounds x.2 x.1) zc).size = zc.size := by
        rw [← Array.foldl_toList, Array.toList_zipIdx]; exact (foldset dl'.toList 0 zc (by simp; omega)).1
      show (if dl'.size ≠ l.length || f.offset + dl'.size > zc.size then none else
        (if dr.size ≠ r.length || g.offset + dr.size > (dl'.zipIdx.foldl (fun cs x => cs.setIfInBounds (f.offset + x.2) x.1) zc).size then none else
          some (dr.zipIdx.foldl (fun cs x => cs.setIfInBounds (g.offset + x.2) x.1) (dl'.zipIdx.foldl (fun cs x => cs.setIfInBounds (f.offset + x.2) x.1) zc)))) = _
      have z : (fun (cs : Array Value) (x : Value × Nat) => cs.setIfInBounds (f.offset + x.2) x.1) = fun cs x => cs.setIfInBounds x.2 x.1 := by funext cs x; rw [ho, Nat.zero_add]
      rw [z, if_neg (by rw [ho]; simp; omega), if_neg (by rw [ho2, s1]; simp; omega), ho2, ← hl, key]
    simp only [execOp, Sem.run_bind, Instr.build, run_zero hz, Result.andThen_ok, run_underlying hu, Value.cells]
    have em : (#[f, g].mapM (fun f => do pure (f.offset, ← sizeOf f.type) : Field → Sem (Nat × Nat))).run P w = .ok #[(f.offset, l.length), (g.offset, r.length)] w := by
      simp [run_sizeOf_is hf, run_sizeOf_is hg]
    rw [em]
    simp only [Result.andThen_ok]
    have e2 : (#[((0 : Nat), x), (1, y)].map fun (i, x) => (i, a.eval x)).toList = [(0, .agg dl'), (1, .agg dr)] := by simp [hd, hd2]
    rw [e2, e]
    simp
/-- A struct of two rows, of which the first is given. -/
theorem op_buildFirst {x : Operand} {l r : List UInt64} {f g : Field} (hu : P.underlying t = some (.struct #[f, g])) (ho : f.offset = 0) (hf : (P.info? f.type).map (·.size) = some l.length) (hg : (P.info? g.type).map (·.size) = some r.length) (hz : (P.info? t).map (·.zero) = some (some (.agg (Array.replicate (l.length + r.length) (.int .u64 0))))) (hr : r = List.replicate r.length 0) (hx : aev T x = some (.agg64 l)) :
    OpSem P T H ⟨d, .build t #[(0, x)], ty, ps, af, gd⟩ nm wr (.agg64 (l ++ r)) [] :=
  .quiet fun E a w h => by
    have h1 := h x (by simp [Op.operands]) _ hx
    obtain ⟨dl', hd, hl, _⟩ := h1.agg_inv (cs := l.map .u64) rfl
    have hl : dl'.size = l.length := by rw [← hl]; simp
    rw [hd] at h1
    have hz2 : Rel E (.agg64 r) (.agg (Array.replicate r.length (.int .u64 0))) := by
      have := rz_64 E r.length
      rw [← hr] at this; exact this
    refine ⟨.agg (dl' ++ Array.replicate r.length (.int .u64 0)), ?_, agg64_app h1 hz2⟩
    have e : Instr.fill (fun i => (#[(f.offset, l.length), (g.offset, r.length)] : Array (Nat × Nat))[i]?) (Array.replicate (l.length + r.length) (.int .u64 0)) [(0, .agg dl')] = some (dl' ++ Array.replicate r.length (.int .u64 0)) := by
      have key : dl'.zipIdx.foldl (fun cs x => cs.setIfInBounds x.2 x.1) (Array.replicate (l.length + r.length) (.int .u64 0)) = dl' ++ Array.replicate r.length (.int .u64 0) := by
        rw [← Array.foldl_toList, Array.toList_zipIdx]
        obtain ⟨_, h2⟩ := foldset dl'.toList 0 (Array.replicate (l.length + r.length) (.int .u64 0)) (by simp; omega)
        refine Array.ext_getElem? fun i => ?_
        rw [h2 i]
        by_cases c : i < dl'.size
        · rw [if_pos (by simp; omega), Array.getElem?_append_left c]; simp
        · rw [if_neg (by simp; omega), Array.getElem?_append_right (by omega), Array.getElem?_replicate, Array.getElem?_replicate]
          by_cases c2 : i < l.length + r.length
          · rw [if_pos c2, if_pos (by omega)]
          · rw [if_neg c2, if_neg (by omega)]
      show (if dl'.size ≠ l.length || f.offset + dl'.size > (Array.replicate (l.length + r.length) (Value.int .u64 0)).size then none else
          some (dl'.zipIdx.foldl (fun cs x => cs.setIfInBounds (f.offset + x.2) x.1) (Array.replicate (l.length + r.length) (.int .u64 0)))) = _
      have z : (fun (cs : Array Value) (x : Value × Nat) => cs.setIfInBounds (f.offset + x.2) x.1) = fun cs x => cs.setIfInBounds x.2 x.1 := by funext cs x; rw [ho, Nat.zero_add]
      rw [z, if_neg (by rw [ho]; simp; omega), key]
    simp only [execOp, Sem.run_bind, Instr.build, run_zero hz, Result.andThen_ok, run_underlying hu, Value.cells]
    have em : (#[f, g].mapM (fun f => do pure (f.offset, ← sizeOf f.type) : Field → Sem (Nat × Nat))).run P w = .ok #[(f.offset, l.length), (g.offset, r.length)] w := by
      simp [run_sizeOf_is hf, run_sizeOf_is hg]
    rw [em]
    simp only [Result.andThen_ok]
    have e2 : (#[((0 : Nat), x)].map fun (i, x) => (i, a.eval x)).toList = [(0, .agg dl')] := by simp [hd]
    rw [e2, e]
    simp
end
end Go.Proofs.YtjhpelajhkhlcaaDoor
namespace Go.Proofs.YtjhpelajhkhlcaaDoor
theorem fpos : 0 < fp := by decide
def uS (x1 z1 x2 z2 : Nat) : Nat := (x1 * x2 % fp + (fp - z1 * z2 % fp)) % fp
def vS (x1 z1 x2 z2 : Nat) : Nat := (x1 * z2 % fp + (fp - z1 * x2 % fp)) % fp
def csX (x1 z1 x2 z2 : Nat) : Nat := uS x1 z1 x2 z2 * uS x1 z1 x2 z2 % fp
def csZ (x x1 z1 x2 z2 : Nat) : Nat := x * (vS x1 z1 x2 z2 * vS x1 z1 x2 z2 % fp) % fp
def dU (x z : Nat) : Nat := (x * x % fp + (fp - z * z % fp)) % fp
def dblX (x z : Nat) : Nat := dU x z * dU x z % fp
def dblZ (x z : Nat) : Nat := (4 * (x * z % fp) % fp) * (((x * x % fp + 486662 * (x * z % fp) % fp) % fp + z * z % fp) % fp) % fp
theorem dblZ_ref (x z : Nat) : (4 * (x * z % fp) % fp) * (((x * x % fp + z * z % fp) % fp + 486662 * (x * z % fp) % fp) % fp) % fp = dblZ x z := by
  unfold dblZ
  rw [Nat.mod_add_mod, Nat.mod_add_mod, Nat.add_right_comm]
/-- One round of the ladder: p and q, of which q - p is the point x. -/
def lstep (b : Bool) (x : Nat) (s : Nat × Nat × Nat × Nat) : Nat × Nat × Nat × Nat :=
  (if b then csX s.1 s.2.1 s.2.2.1 s.2.2.2 else dblX (if b then s.2.2.1 else s.1) (if b then s.2.2.2 else s.2.1),
   if b then csZ x s.1 s.2.1 s.2.2.1 s.2.2.2 else dblZ (if b then s.2.2.1 else s.1) (if b then s.2.2.2 else s.2.1),
   if b then dblX (if b then s.2.2.1 else s.1) (if b then s.2.2.2 else s.2.1) else csX s.1 s.2.1 s.2.2.1 s.2.2.2,
   if b then dblZ (if b then s.2.2.1 else s.1) (if b then s.2.2.2 else s.2.1) else csZ x s.1 s.2.1 s.2.2.1 s.2.2.2)
/-- Bit i of a scalar. -/
def kb (K : List UInt8) (i : Nat) : Bool := decide ((K.getD (i / 8) 0).toNat / 2 ^ (i % 8) % 2 = 1)
def lad (K : List UInt8) (x : Nat) : Nat → Nat × Nat × Nat × Nat
  | 0 => (1, 0, x, 1)
  | i + 1 => lstep (kb K (255 - i)) x (lad K x i)
theorem lstep_lt (b : Bool) (x : Nat) (s : Nat × Nat × Nat × Nat) : (lstep b x s).1 < fp ∧ (lstep b x s).2.1 < fp ∧ (lstep b x s).2.2.1 < fp ∧ (lstep b x s).2.2.2 < fp := by
  have h1 : ∀ a, a % fp < fp := fun a => Nat.mod_lt _ fpos
  cases b <;> exact ⟨h1 _, h1 _, h1 _, h1 _⟩
theorem lad_lt (K : List UInt8) (x : Nat) (hx : x < fp) (i : Nat) : (lad K x i).1 < fp ∧ (lad K x i).2.1 < fp ∧ (lad K x i).2.2.1 < fp ∧ (lad K x i).2.2.2 < fp := by
  cases i with
  | zero => exact ⟨show 1 < fp by decide, fpos, hx, show 1 < fp by decide⟩
  | succ i => exact lstep_lt _ _ _
/-- The scalar times the point. -/
def tmV (K : List UInt8) (x : Nat) : Nat := (lad K x 256).1 * ((lad K x 256).2.1 ^ (fp - 2) % fp) % fp
theorem tmV_lt (K : List UInt8) (x : Nat) : tmV K x < fp := Nat.mod_lt _ fpos
/-- The scalar as it counts. -/
def usL (K : List UInt8) : List UInt8 := (((K.set 0 (K.getD 0 0 &&& ~~~(UInt8.ofNat 7))).set 31 ((K.set 0 (K.getD 0 0 &&& ~~~(UInt8.ofNat 7))).getD 31 0 &&& ~~~(UInt8.ofNat 128)))).set 31 ((((K.set 0 (K.getD 0 0 &&& ~~~(UInt8.ofNat 7))).set 31 ((K.set 0 (K.getD 0 0 &&& ~~~(UInt8.ofNat 7))).getD 31 0 &&& ~~~(UInt8.ofNat 128)))).getD 31 0 ||| UInt8.ofNat 64)
def usR (K : List UInt8) : List UInt8 := (K.set 0 (K.getD 0 0 / UInt8.ofNat 8 * UInt8.ofNat 8)).set 31 ((K.set 0 (K.getD 0 0 / UInt8.ofNat 8 * UInt8.ofNat 8)).getD 31 0 % UInt8.ofNat 64 + UInt8.ofNat 64)
theorem length_usL (K : List UInt8) : (usL K).length = K.length := by simp [usL]
theorem length_usR (K : List UInt8) : (usR K).length = K.length := by simp [usR]
theorem all8 (p : UInt8 → Bool) (h : ∀ n : Fin 256, p (UInt8.ofNat n.val) = true) (x : UInt8) : p x = true := by
  have := h ⟨x.toNat, x.toNat_lt⟩
  simpa using this
theorem low3 (x : UInt8) : x &&& ~~~(UInt8.ofNat 7) = x / UInt8.ofNat 8 * UInt8.ofNat 8 := by
  have := all8 (fun x => x &&& ~~~(UInt8.ofNat 7) == x / UInt8.ofNat 8 * UInt8.ofNat 8) (by decide +kernel) x
  simpa using this
theorem top2 (x : UInt8) : (x &&& ~~~(UInt8.ofNat 128)) ||| UInt8.ofNat 64 = x % UInt8.ofNat 64 + UInt8.ofNat 64 := by
  have := all8 (fun x => (x &&& ~~~(UInt8.ofNat 128)) ||| UInt8.ofNat 64 == x % UInt8.ofNat 64 + UInt8.ofNat 64) (by decide +kernel) x
  simpa using this
theorem us_eq (K : List UInt8) (h : K.length = 32) : usL K = usR K := by
  unfold usL usR
  rw [low3]
  have h31 : 31 < (K.set 0 (K.getD 0 0 / UInt8.ofNat 8 * UInt8.ofNat 8)).length := by simp [h]
  generalize K.set 0 (K.getD 0 0 / UInt8.ofNat 8 * UInt8.ofNat 8) = L at *
  rw [List.set_set, show (L.set 31 (L.getD 31 0 &&& ~~~(UInt8.ofNat 128))).getD 31 0 = L.getD 31 0 &&& ~~~(UInt8.ofNat 128) by simp [List.getD_eq_getElem?_getD, h31], top2]
/-- A bit, as the program asks for it, and as the reference does. -/
theorem shr8_toNat (x : UInt8) (s : Nat) (hs : s < 8) : (x >>> UInt8.ofNat s).toNat = x.toNat / 2 ^ s := by
  rw [UInt8.toNat_shiftRight, Nat.shiftRight_eq_div_pow, UInt8.toNat_ofNat', Nat.mod_eq_of_lt (b := 2 ^ 8) (Nat.lt_trans hs (by decide)), Nat.mod_eq_of_lt (b := 8) hs]
theorem bit_prog (K : List UInt8) (i : Nat) : ((K.getD (i / 8) 0 >>> UInt8.ofNat (i % 8)) &&& UInt8.ofNat 1 == UInt8.ofNat 1) = kb K i := by
  unfold kb
  rw [Bool.eq_iff_iff, beq_iff_eq, decide_eq_true_eq, ← UInt8.toNat_inj, UInt8.toNat_and, show (UInt8.ofNat 1).toNat = 2 ^ 1 - 1 from rfl, Nat.and_two_pow_sub_one_eq_mod, shr8_toNat _ _ (Nat.mod_lt _ (by decide))]
theorem bit_ref (K : List UInt8) (i : Nat) : ((K.getD (i / 8) 0 >>> UInt8.ofNat (i % 8)) % UInt8.ofNat 2 == UInt8.ofNat 1) = kb K i := by
  unfold kb
  rw [Bool.eq_iff_iff, beq_iff_eq, decide_eq_true_eq, ← UInt8.toNat_inj, UInt8.toNat_mod, shr8_toNat _ _ (Nat.mod_lt _ (by decide))]
  rfl
end Go.Proofs.YtjhpelajhkhlcaaDoor
namespace Go.Proofs.YtjhpelajhkhlcaaDoor
theorem leN_bsN (v n : Nat) : leN (bsN v n) n = v % 256 ^ n := by
  induction n with
  | zero => simp [leN, Nat.mod_one]
  | succ n ih =>
    have e : leN (bsN v (n + 1)) n = leN (bsN v n) n := leN_congr _ _ _ fun i hi => by
      simp only [bsN]; rw [getD_app, if_pos (by rw [length_bsN]; exact hi)]
    simp only [leN]
    rw [e, ih, bs_get v (n + 1) n (by omega)]
    have h := Nat.mod_lt (v / 256 ^ n) (show 0 < 256 by decide)
    rw [UInt8.toNat_ofNat_of_lt' (by simpa using h), Nat.pow_succ, Nat.mod_mul]
theorem of_bytes (v : Nat) (h : v < fp) : ofV (bsN v 32) = v := by
  have h2 : (256 : Nat) ^ 32 = 115792089237316195423570985008687907853269984665640564039457584007913129639936 := by decide
  unfold ofV
  rw [leN_bsN, h2]
  unfold fp at *
  omega
theorem bsN_inj {a b : Nat} (ha : a < fp) (hb : b < fp) (h : bsN a 32 = bsN b 32) : a = b := by rw [← of_bytes a ha, ← of_bytes b hb, h]
def pk (s : Nat × Nat × Nat × Nat) : Nat := s.1 + 115792089237316195423570985008687907853269984665640564039457584007913129639936 * (s.2.1 + 115792089237316195423570985008687907853269984665640564039457584007913129639936 * (s.2.2.1 + 115792089237316195423570985008687907853269984665640564039457584007913129639936 * s.2.2.2))
def up (n : Nat) : Nat × Nat × Nat × Nat := (n % 115792089237316195423570985008687907853269984665640564039457584007913129639936, n / 115792089237316195423570985008687907853269984665640564039457584007913129639936 % 115792089237316195423570985008687907853269984665640564039457584007913129639936, n / 115792089237316195423570985008687907853269984665640564039457584007913129639936 / 115792089237316195423570985008687907853269984665640564039457584007913129639936 % 115792089237316195423570985008687907853269984665640564039457584007913129639936, n / 115792089237316195423570985008687907853269984665640564039457584007913129639936 / 115792089237316195423570985008687907853269984665640564039457584007913129639936 / 115792089237316195423570985008687907853269984665640564039457584007913129639936)
theorem up_pk (s : Nat × Nat × Nat × Nat) (h1 : s.1 < fp) (h2 : s.2.1 < fp) (h3 : s.2.2.1 < fp) : up (pk s) = s := by
  obtain ⟨a, b, c, d⟩ := s
  unfold up pk fp at *
  simp only at *
  refine Prod.ext ?_ (Prod.ext ?_ (Prod.ext ?_ ?_))
  · show _ % _ = a; omega
  · show _ / _ % _ = b; omega
  · show _ / _ / _ % _ = c; omega
  · show _ / _ / _ / _ = d; omega
def ladP (K : List UInt8) (x : Nat) : Nat → Nat
  | 0 => pk (1, 0, x, 1)
  | i + 1 => pk (lstep (kb K (255 - i)) x (up (ladP K x i)))
theorem ladP_eq (K : List UInt8) (x : Nat) (hx : x < fp) (i : Nat) : ladP K x i = pk (lad K x i) := by
  induction i with
  | zero => rfl
  | succ i ih =>
    have h := lad_lt K x hx i
    simp only [ladP, lad]
    rw [ih, up_pk _ h.1 h.2.1 h.2.2.1]
def tmC (K : List UInt8) (x : Nat) : Nat := (up (ladP K x 256)).1 * pm fp 256 (up (ladP K x 256)).2.1 (fp - 2) % fp
theorem tmC_eq (K : List UInt8) (x : Nat) (hx : x < fp) : tmV K x = tmC K x := by
  have h := lad_lt K x hx 256
  unfold tmV tmC
  rw [ladP_eq K x hx, up_pk _ h.1 h.2.1 h.2.2.1, pm_spec fp 256 _ (fp - 2) (by decide)]
def ka6 : List UInt8 := [0, 0, 0, 0, 0, 0, 0, 0, 7, 0, 0, 0, 0, 0, 0, 0, 0, 0, 0, 0, 0, 0, 0, 0, 0, 0, 0, 0, 0, 0, 0, 0]
def kb6 : List UInt8 := [0, 0, 0, 0, 0, 0, 0, 0, 0, 0, 0, 0, 0, 0, 0, 0, 0, 0, 0, 0, 9, 0, 0, 0, 0, 0, 0, 0, 0, 0, 0, 0]
theorem fact6a : tmC (usL ka6) (tmC (usL kb6) 9) = tmC (usL kb6) (tmC (usL ka6) 9) := by decide +kernel
theorem fact6b : tmC (usL ka6) (tmC (usL kb6) 9) ≠ 0 := by decide +kernel
theorem fact6c : tmC (usL ka6) 9 ≠ tmC (usL kb6) 9 := by decide +kernel
end Go.Proofs.YtjhpelajhkhlcaaDoor
namespace Go.Proofs.YtjhpelajhkhlcaaDoor
open Go.RowKit
set_option maxRecDepth 100000 in
theorem csum_ev (e x1 z1 x2 z2 x : Nat) (h1 : x1 < fp) (h2 : z1 < fp) (h3 : x2 < fp) (h4 : z2 < fp) (h5 : x < fp) : Meets Tryd.prog 121 [.agg64 (fl x1 ++ fl z1), .agg64 (fl x2 ++ fl z2), .agg64 (fl x)] (HP e) (.agg64 (fl (csX x1 z1 x2 z2) ++ fl (csZ x x1 z1 x2 z2))) [] := by
  refine meets_of_ev (nt := 34) Tryd.func121 rfl rfl (Nat.le_of_ble_eq_true rfl) ?_
  refine .seq ?_
  refine .region ?_
  refine .a (op_boxRow rfl rfl) trivial rfl ?_
  refine .a (op_boxRow rfl rfl) trivial rfl ?_
  refine .a (op_boxRow rfl rfl) trivial rfl ?_
  refine .a (op_allocRow zero139 rel_zero139 rfl) trivial rfl ?_
  refine .nil ?_
  show Ev _ _ _ _ _
  refine .seq ?_
  refine .drawn [[], [0], [], [2], [0, 1, 2, 3], [], [5], [], [7], [0, 1, 2, 3, 4, 5, 6, 7, 8], [0, 1, 2, 3, 4, 5, 6, 7, 8, 9], [0, 1, 2, 3, 4, 5, 6, 7, 8, 9, 10], [], [], [13], [], [15], [0, 1, 2, 3, 4, 5, 6, 7, 8, 9, 10, 11, 13, 14, 15, 16], [], [18], [], [20], [0, 1, 2, 3, 4, 5, 6, 7, 8, 9, 10, 11, 13, 14, 15, 16, 17, 18, 19, 20, 21], [0, 1, 2, 3, 4, 5, 6, 7, 8, 9, 10, 11, 13, 14, 15, 16, 17, 18, 19, 20, 21, 22], [0, 1, 2, 3, 4, 5, 6, 7, 8, 9, 10, 11, 13, 14, 15, 16, 17, 18, 19, 20, 21, 22, 23], [0, 1, 2, 3, 4, 5, 6, 7, 8, 9, 10, 11, 12, 13, 14, 15, 16, 17, 18, 19, 20, 21, 22, 23, 24], [0, 1, 2, 3, 4, 5, 6, 7, 8, 9, 10, 11, 12, 13, 14, 15, 16, 17, 18, 19, 20, 21, 22, 23, 24, 25], [0, 1, 2, 3, 4, 5, 6, 7, 8, 9, 10, 11, 12, 13, 14, 15, 16, 17, 18, 19, 20, 21, 22, 23, 24, 25, 26]] [1, 3, 4, 6, 8, 9, 10, 11, 12, 14, 16, 17, 19, 21, 22, 23, 24, 25, 27] [27] (by kernel_rfl) (by kernel_rfl) rfl ?_
  show DK _ [0, 1, 2, 3, 4, 5, 6, 7, 8, 9, 10, 11, 12, 13, 14, 15, 16, 17, 18, 19, 20, 21, 22, 23, 24, 25, 26, 27] _ _ _
  refine .q rfl (op_fieldAddr (m := 3) Tryd.underlying139 rfl sz48 rfl) trivial ?_
  refine .q rfl (op_loadPart (r := .agg64 (fl (x1))) (cs := (fl (x1)).map AV.u64) Tryd.underlying48 rfl sz48 rfl rfl rfl rfl rfl (Nat.le_of_ble_eq_true rfl)) trivial ?_
  refine .q rfl (op_fieldAddr (m := 3) Tryd.underlying139 rfl sz48 rfl) trivial ?_
  refine .q rfl (op_loadPart (r := .agg64 (fl (x2))) (cs := (fl (x2)).map AV.u64) Tryd.underlying48 rfl sz48 rfl rfl rfl rfl rfl (Nat.le_of_ble_eq_true rfl)) trivial ?_
  refine .q rfl (op_call (U := []) [] [] (fmul_ev _ _ (by first | assumption | exact fmod_lt _ | exact hb.1 | exact hb.2.1 | decide) (by first | assumption | exact fmod_lt _ | exact hb.1 | exact hb.2.1 | decide)) Tryd.func35 (by kernel_rfl) rfl rfl rfl (⟨⟨_, rfl, rfl, rfl⟩, ⟨_, rfl, rfl, rfl⟩, trivial⟩) (trivial) (trivial) (trivial) rfl) trivial ?_
  refine .q rfl (op_fieldAddr (m := 3) Tryd.underlying139 rfl sz48 rfl) trivial ?_
  refine .q rfl (op_loadPart (r := .agg64 (fl (z1))) (cs := (fl (z1)).map AV.u64) Tryd.underlying48 rfl sz48 rfl rfl rfl rfl rfl (Nat.le_of_ble_eq_true rfl)) trivial ?_
  refine .q rfl (op_fieldAddr (m := 3) Tryd.underlying139 rfl sz48 rfl) trivial ?_
  refine .q rfl (op_loadPart (r := .agg64 (fl (z2))) (cs := (fl (z2)).map AV.u64) Tryd.underlying48 rfl sz48 rfl rfl rfl rfl rfl (Nat.le_of_ble_eq_true rfl)) trivial ?_
  refine .q rfl (op_call (U := []) [] [] (fmul_ev _ _ (by first | assumption | exact fmod_lt _ | exact hb.1 | exact hb.2.1 | decide) (by first | assumption | exact fmod_lt _ | exact hb.1 | exact hb.2.1 | decide)) Tryd.func35 (by kernel_rfl) rfl rfl rfl (⟨⟨_, rfl, rfl, rfl⟩, ⟨_, rfl, rfl, rfl⟩, trivial⟩) (trivial) (trivial) (trivial) rfl) trivial ?_
  refine .q rfl (op_call (U := []) [] [] (fsub_ev e _ _ (by first | assumption | exact fmod_lt _ | exact hb.1 | exact hb.2.1 | decide) (by first | assumption | exact fmod_lt _ | exact hb.1 | exact hb.2.1 | decide)) Tryd.func32 (by kernel_rfl) rfl rfl rfl (⟨⟨_, rfl, rfl, rfl⟩, ⟨_, rfl, rfl, rfl⟩, trivial⟩) (⟨⟨_, _, rfl, rfl, rfl, rfl, id, rfl⟩, trivial⟩) (trivial) (⟨(fun h => by cases h), trivial⟩) rfl) trivial ?_
  refine .q rfl (op_call (U := []) [] [] (fsquare_ev _ (by first | assumption | exact fmod_lt _ | exact hb.1 | exact hb.2.1 | decide)) Tryd.func37 (by kernel_rfl) rfl rfl rfl (⟨⟨_, rfl, rfl, rfl⟩, trivial⟩) (trivial) (trivial) (trivial) rfl) trivial ?_
  refine .q rfl (op_loadRow Tryd.underlying48 rfl sz48 rfl rfl rfl (rfl)) trivial ?_
  refine .q rfl (op_fieldAddr (m := 3) Tryd.underlying139 rfl sz48 rfl) trivial ?_
  refine .q rfl (op_loadPart (r := .agg64 (fl (x1))) (cs := (fl (x1)).map AV.u64) Tryd.underlying48 rfl sz48 rfl rfl rfl rfl rfl (Nat.le_of_ble_eq_true rfl)) trivial ?_
  refine .q rfl (op_fieldAddr (m := 3) Tryd.underlying139 rfl sz48 rfl) trivial ?_
  refine .q rfl (op_loadPart (r := .agg64 (fl (z2))) (cs := (fl (z2)).map AV.u64) Tryd.underlying48 rfl sz48 rfl rfl rfl rfl rfl (Nat.le_of_ble_eq_true rfl)) trivial ?_
  refine .q rfl (op_call (U := []) [] [] (fmul_ev _ _ (by first | assumption | exact fmod_lt _ | exact hb.1 | exact hb.2.1 | decide) (by first | assumption | exact fmod_lt _ | exact hb.1 | exact hb.2.1 | decide)) Tryd.func35 (by kernel_rfl) rfl rfl rfl (⟨⟨_, rfl, rfl, rfl⟩, ⟨_, rfl, rfl, rfl⟩, trivial⟩) (trivial) (trivial) (trivial) rfl) trivial ?_
  refine .q rfl (op_fieldAddr (m := 3) Tryd.underlying139 rfl sz48 rfl) trivial ?_
  refine .q rfl (op_loadPart (r := .agg64 (fl (z1))) (cs := (fl (z1)).map AV.u64) Tryd.underlying48 rfl sz48 rfl rfl rfl rfl rfl (Nat.le_of_ble_eq_true rfl)) trivial ?_
  refine .q rfl (op_fieldAddr (m := 3) Tryd.underlying139 rfl sz48 rfl) trivial ?_
  refine .q rfl (op_loadPart (r := .agg64 (fl (x2))) (cs := (fl (x2)).map AV.u64) Tryd.underlying48 rfl sz48 rfl rfl rfl rfl rfl (Nat.le_of_ble_eq_true rfl)) trivial ?_
  refine .q rfl (op_call (U := []) [] [] (fmul_ev _ _ (by first | assumption | exact fmod_lt _ | exact hb.1 | exact hb.2.1 | decide) (by first | assumption | exact fmod_lt _ | exact hb.1 | exact hb.2.1 | decide)) Tryd.func35 (by kernel_rfl) rfl rfl rfl (⟨⟨_, rfl, rfl, rfl⟩, ⟨_, rfl, rfl, rfl⟩, trivial⟩) (trivial) (trivial) (trivial) rfl) trivial ?_
  refine .q rfl (op_call (U := []) [] [] (fsub_ev e _ _ (by first | assumption | exact fmod_lt _ | exact hb.1 | exact hb.2.1 | decide) (by first | assumption | exact fmod_lt _ | exact hb.1 | exact hb.2.1 | decide)) Tryd.func32 (by kernel_rfl) rfl rfl rfl (⟨⟨_, rfl, rfl, rfl⟩, ⟨_, rfl, rfl, rfl⟩, trivial⟩) (⟨⟨_, _, rfl, rfl, rfl, rfl, id, rfl⟩, trivial⟩) (trivial) (⟨(fun h => by cases h), trivial⟩) rfl) trivial ?_
  refine .q rfl (op_call (U := []) [] [] (fsquare_ev _ (by first | assumption | exact fmod_lt _ | exact hb.1 | exact hb.2.1 | decide)) Tryd.func37 (by kernel_rfl) rfl rfl rfl (⟨⟨_, rfl, rfl, rfl⟩, trivial⟩) (trivial) (trivial) (trivial) rfl) trivial ?_
  refine .q rfl (op_call (U := []) [] [] (fmul_ev _ _ (by first | assumption | exact fmod_lt _ | exact hb.1 | exact hb.2.1 | decide) (by first | assumption | exact fmod_lt _ | exact hb.1 | exact hb.2.1 | decide)) Tryd.func35 (by kernel_rfl) rfl rfl rfl (⟨⟨_, rfl, rfl, rfl⟩, ⟨_, rfl, rfl, rfl⟩, trivial⟩) (trivial) (trivial) (trivial) rfl) trivial ?_
  refine .q rfl (op_buildPair Tryd.underlying139 rfl (by rfl) (by exact sz48) (by exact sz48) (by exact zero139) (by rfl) rfl rfl) trivial ?_
  refine .as (.agg64 (fl (csX x1 z1 x2 z2) ++ fl (csZ x x1 z1 x2 z2))) rfl ?_
  refine .w rfl (op_storeRow sz139 rfl rfl rfl rfl rfl (rfl) (rfl)) trivial rfl rfl ?_
  refine .nil ?_
  show Ev _ _ _ _ _
  refine .ret ?_
  show RetOk _ _ _ _ _ _ _
  exact retc1 rfl (.inl rfl) ⟨_, _, _, _, rfl, rfl, rfl, rfl, (rfl), Tryd.underlying139, rfl, sz139⟩ trivial
set_option maxRecDepth 100000 in
theorem cdouble_ev (e x z : Nat) (h1 : x < fp) (h2 : z < fp) : Meets Tryd.prog 122 [.agg64 (fl x ++ fl z)] (HP e) (.agg64 (fl (dblX x z) ++ fl (dblZ x z))) [] := by
  refine meets_of_ev (nt := 33) Tryd.func122 rfl rfl (Nat.le_of_ble_eq_true rfl) ?_
  refine .seq ?_
  refine .region ?_
  refine .a (op_boxRow rfl rfl) trivial rfl ?_
  refine .a (op_allocRow zero139 rel_zero139 rfl) trivial rfl ?_
  refine .nil ?_
  show Ev _ _ _ _ _
  refine .seq ?_
  refine .drawn [[], [0], [0, 1], [], [3], [0, 1, 2, 3, 4], [], [6], [], [8], [0, 1, 2, 3, 4, 5, 6, 7, 8, 9], [], [], [], [0, 1, 2, 3, 4, 5, 6, 7, 8, 9, 10, 11, 12, 13], [0, 1, 2, 3, 4, 5, 6, 7, 8, 9, 10, 11, 12, 13, 14], [0, 1, 2, 3, 4, 5, 6, 7, 8, 9, 10, 11, 12, 13, 14, 15]] [1, 2, 4, 5, 7, 9, 10, 11, 12, 13, 14, 15, 16] [14, 15, 16] (by kernel_rfl) (by kernel_rfl) rfl ?_
  show DK _ [0, 1, 2, 3, 4, 5, 6, 7, 8, 9, 10, 11, 12, 13, 14, 15, 16] _ _ _
  refine .q rfl (op_fieldAddr (m := 3) Tryd.underlying139 rfl sz48 rfl) trivial ?_
  refine .q rfl (op_loadPart (r := .agg64 (fl (x))) (cs := (fl (x)).map AV.u64) Tryd.underlying48 rfl sz48 rfl rfl rfl rfl rfl (Nat.le_of_ble_eq_true rfl)) trivial ?_
  refine .q rfl (op_call (U := []) [] [] (fsquare_ev _ (by first | assumption | exact fmod_lt _ | exact hb.1 | exact hb.2.1 | decide)) Tryd.func37 (by kernel_rfl) rfl rfl rfl (⟨⟨_, rfl, rfl, rfl⟩, trivial⟩) (trivial) (trivial) (trivial) rfl) trivial ?_
  refine .q rfl (op_fieldAddr (m := 3) Tryd.underlying139 rfl sz48 rfl) trivial ?_
  refine .q rfl (op_loadPart (r := .agg64 (fl (z))) (cs := (fl (z)).map AV.u64) Tryd.underlying48 rfl sz48 rfl rfl rfl rfl rfl (Nat.le_of_ble_eq_true rfl)) trivial ?_
  refine .q rfl (op_call (U := []) [] [] (fsquare_ev _ (by first | assumption | exact fmod_lt _ | exact hb.1 | exact hb.2.1 | decide)) Tryd.func37 (by kernel_rfl) rfl rfl rfl (⟨⟨_, rfl, rfl, rfl⟩, trivial⟩) (trivial) (trivial) (trivial) rfl) trivial ?_
  refine .q rfl (op_fieldAddr (m := 3) Tryd.underlying139 rfl sz48 rfl) trivial ?_
  refine .q rfl (op_loadPart (r := .agg64 (fl (x))) (cs := (fl (x)).map AV.u64) Tryd.underlying48 rfl sz48 rfl rfl rfl rfl rfl (Nat.le_of_ble_eq_true rfl)) trivial ?_
  refine .q rfl (op_fieldAddr (m := 3) Tryd.underlying139 rfl sz48 rfl) trivial ?_
  refine .q rfl (op_loadPart (r := .agg64 (fl (z))) (cs := (fl (z)).map AV.u64) Tryd.underlying48 rfl sz48 rfl rfl rfl rfl rfl (Nat.le_of_ble_eq_true rfl)) trivial ?_
  refine .q rfl (op_call (U := []) [] [] (fmul_ev _ _ (by first | assumption | exact fmod_lt _ | exact hb.1 | exact hb.2.1 | decide) (by first | assumption | exact fmod_lt _ | exact hb.1 | exact hb.2.1 | decide)) Tryd.func35 (by kernel_rfl) rfl rfl rfl (⟨⟨_, rfl, rfl, rfl⟩, ⟨_, rfl, rfl, rfl⟩, trivial⟩) (trivial) (trivial) (trivial) rfl) trivial ?_
  refine .a rfl (op_allocRow zero48 rel_zero48 rfl) trivial rfl rfl ?_
  refine .a rfl (op_allocRow zero48 rel_zero48 rfl) trivial rfl rfl ?_
  refine .a rfl (op_allocRow zero48 rel_zero48 rfl) trivial rfl rfl ?_
  refine .w rfl (op_storeRow sz48 rfl rfl rfl rfl rfl (rfl) (rfl)) trivial rfl rfl ?_
  refine .w rfl (op_storeRow sz48 rfl rfl rfl rfl rfl (rfl) (rfl)) trivial rfl rfl ?_
  refine .w rfl (op_storeRow sz48 rfl rfl rfl rfl rfl (rfl) (rfl)) trivial rfl rfl ?_
  refine .nil ?_
  show Ev _ _ _ _ _
  refine .seq ?_
  refine .drawn [[], [], [0, 1], [0, 1, 2], [0, 1, 2, 3], [], [0, 1, 2, 3, 4, 5], [], [0, 1, 2, 3, 4, 5, 6], [], [0, 1, 2, 3, 4, 5, 6, 8, 9], [0, 1, 2, 3, 4, 5, 6, 7, 8, 9, 10], [], [0, 1, 2, 3, 4, 5, 6, 7, 8, 9, 10, 11, 12], [0, 1, 2, 3, 4, 5, 6, 7, 8, 9, 10, 11, 12, 13], [0, 1, 2, 3, 4, 5, 6, 7, 8, 9, 10, 11, 12, 13, 14], [0, 1, 2, 3, 4, 5, 6, 7, 8, 9, 10, 11, 12, 13, 14, 15]] [0, 1, 2, 3, 4, 5, 6, 7, 8, 9, 10, 11, 12, 13, 14, 16] [16] (by kernel_rfl) (by kernel_rfl) rfl ?_
  show DK _ [0, 1, 2, 3, 4, 5, 6, 7, 8, 9, 10, 11, 12, 13, 14, 15, 16] _ _ _
  refine .q rfl (op_loadRow Tryd.underlying48 rfl sz48 rfl rfl rfl (rfl)) trivial ?_
  refine .q rfl (op_loadRow Tryd.underlying48 rfl sz48 rfl rfl rfl (rfl)) trivial ?_
  refine .q rfl (op_call (U := []) [] [] (fsub_ev e _ _ (by first | assumption | exact fmod_lt _ | exact hb.1 | exact hb.2.1 | decide) (by first | assumption | exact fmod_lt _ | exact hb.1 | exact hb.2.1 | decide)) Tryd.func32 (by kernel_rfl) rfl rfl rfl (⟨⟨_, rfl, rfl, rfl⟩, ⟨_, rfl, rfl, rfl⟩, trivial⟩) (⟨⟨_, _, rfl, rfl, rfl, rfl, id, rfl⟩, trivial⟩) (trivial) (⟨(fun h => by cases h), trivial⟩) rfl) trivial ?_
  refine .q rfl (op_call (U := []) [] [] (fsquare_ev _ (by first | assumption | exact fmod_lt _ | exact hb.1 | exact hb.2.1 | decide)) Tryd.func37 (by kernel_rfl) rfl rfl rfl (⟨⟨_, rfl, rfl, rfl⟩, trivial⟩) (trivial) (trivial) (trivial) rfl) trivial ?_
  refine .q rfl (op_call (U := []) [] [] (fsmall_ev _) Tryd.func46 (by kernel_rfl) rfl rfl rfl (⟨⟨_, rfl, rfl, rfl⟩, trivial⟩) (trivial) (trivial) (trivial) rfl) trivial ?_
  refine .as (.agg64 (fl 4)) rfl ?_
  refine .q rfl (op_loadRow Tryd.underlying48 rfl sz48 rfl rfl rfl (rfl)) trivial ?_
  refine .q rfl (op_call (U := []) [] [] (fmul_ev _ _ (by first | assumption | exact fmod_lt _ | exact hb.1 | exact hb.2.1 | decide) (by first | assumption | exact fmod_lt _ | exact hb.1 | exact hb.2.1 | decide)) Tryd.func35 (by kernel_rfl) rfl rfl rfl (⟨⟨_, rfl, rfl, rfl⟩, ⟨_, rfl, rfl, rfl⟩, trivial⟩) (trivial) (trivial) (trivial) rfl) trivial ?_
  refine .q rfl (op_loadRow Tryd.underlying48 rfl sz48 rfl rfl rfl (rfl)) trivial ?_
  refine .q rfl (op_call (U := []) [] [] (fsmall_ev _) Tryd.func46 (by kernel_rfl) rfl rfl rfl (⟨⟨_, rfl, rfl, rfl⟩, trivial⟩) (trivial) (trivial) (trivial) rfl) trivial ?_
  refine .as (.agg64 (fl 486662)) rfl ?_
  refine .q rfl (op_loadRow Tryd.underlying48 rfl sz48 rfl rfl rfl (rfl)) trivial ?_
  refine .q rfl (op_call (U := []) [] [] (fmul_ev _ _ (by first | assumption | exact fmod_lt _ | exact hb.1 | exact hb.2.1 | decide) (by first | assumption | exact fmod_lt _ | exact hb.1 | exact hb.2.1 | decide)) Tryd.func35 (by kernel_rfl) rfl rfl rfl (⟨⟨_, rfl, rfl, rfl⟩, ⟨_, rfl, rfl, rfl⟩, trivial⟩) (trivial) (trivial) (trivial) rfl) trivial ?_
  refine .q rfl (op_call (U := []) [] [] (fadd_ev _ _ (by first | assumption | exact fmod_lt _ | exact hb.1 | exact hb.2.1 | decide) (by first | assumption | exact fmod_lt _ | exact hb.1 | exact hb.2.1 | decide)) Tryd.func30 (by kernel_rfl) rfl rfl rfl (⟨⟨_, rfl, rfl, rfl⟩, ⟨_, rfl, rfl, rfl⟩, trivial⟩) (trivial) (trivial) (trivial) rfl) trivial ?_
  refine .q rfl (op_loadRow Tryd.underlying48 rfl sz48 rfl rfl rfl (rfl)) trivial ?_
  refine .q rfl (op_call (U := []) [] [] (fadd_ev _ _ (by first | assumption | exact fmod_lt _ | exact hb.1 | exact hb.2.1 | decide) (by first | assumption | exact fmod_lt _ | exact hb.1 | exact hb.2.1 | decide)) Tryd.func30 (by kernel_rfl) rfl rfl rfl (⟨⟨_, rfl, rfl, rfl⟩, ⟨_, rfl, rfl, rfl⟩, trivial⟩) (trivial) (trivial) (trivial) rfl) trivial ?_
  refine .q rfl (op_call (U := []) [] [] (fmul_ev _ _ (by first | assumption | exact fmod_lt _ | exact hb.1 | exact hb.2.1 | decide) (by first | assumption | exact fmod_lt _ | exact hb.1 | exact hb.2.1 | decide)) Tryd.func35 (by kernel_rfl) rfl rfl rfl (⟨⟨_, rfl, rfl, rfl⟩, ⟨_, rfl, rfl, rfl⟩, trivial⟩) (trivial) (trivial) (trivial) rfl) trivial ?_
  refine .q rfl (op_buildPair Tryd.underlying139 rfl (by rfl) (by exact sz48) (by exact sz48) (by exact zero139) (by rfl) rfl rfl) trivial ?_
  refine .as (.agg64 (fl (dblX x z) ++ fl (dblZ x z))) rfl ?_
  refine .w rfl (op_storeRow sz139 rfl rfl rfl rfl rfl (rfl) (rfl)) trivial rfl rfl ?_
  refine .nil ?_
  show Ev _ _ _ _ _
  refine .ret ?_
  show RetOk _ _ _ _ _ _ _
  exact retc1 rfl (.inl rfl) ⟨_, _, _, _, rfl, rfl, rfl, rfl, (rfl), Tryd.underlying139, rfl, sz139⟩ trivial
set_option maxRecDepth 100000 in
theorem cchoose_ev (c : Bool) (x1 z1 x2 z2 : Nat) : Meets Tryd.prog 123 [.bool c, .agg64 (fl x1 ++ fl z1), .agg64 (fl x2 ++ fl z2)] [] (.agg64 (fl (if c then x1 else x2) ++ fl (if c then z1 else z2))) [] := by
  refine meets_of_ev (nt := 20) Tryd.func123 rfl rfl (Nat.le_of_ble_eq_true rfl) ?_
  refine .seq ?_
  refine .region ?_
  refine .a (op_boxRow rfl rfl) trivial rfl ?_
  refine .a (op_boxRow rfl rfl) trivial rfl ?_
  refine .a (op_allocRow zero139 rel_zero139 rfl) trivial rfl ?_
  refine .nil ?_
  show Ev _ _ _ _ _
  refine .seq ?_
  refine .drawn [[], [], [1], [], [3], [0, 1, 2, 3, 4], [], [], [7], [], [9], [0, 1, 2, 3, 4, 5, 6, 7, 8, 9, 10], [0, 1, 2, 3, 4, 5, 6, 7, 8, 9, 10, 11], [0, 1, 2, 3, 4, 5, 6, 7, 8, 9, 10, 11, 12]] [2, 4, 5, 8, 10, 11, 13] [13] (by kernel_rfl) (by kernel_rfl) rfl ?_
  show DK _ [0, 1, 2, 3, 4, 5, 6, 7, 8, 9, 10, 11, 12, 13] _ _ _
  refine .q rfl (op_move rfl) trivial ?_
  refine .q rfl (op_fieldAddr (m := 3) Tryd.underlying139 rfl sz48 rfl) trivial ?_
  refine .q rfl (op_loadPart (r := .agg64 (fl (x1))) (cs := (fl (x1)).map AV.u64) Tryd.underlying48 rfl sz48 rfl rfl rfl rfl rfl (Nat.le_of_ble_eq_true rfl)) trivial ?_
  refine .q rfl (op_fieldAddr (m := 3) Tryd.underlying139 rfl sz48 rfl) trivial ?_
  refine .q rfl (op_loadPart (r := .agg64 (fl (x2))) (cs := (fl (x2)).map AV.u64) Tryd.underlying48 rfl sz48 rfl rfl rfl rfl rfl (Nat.le_of_ble_eq_true rfl)) trivial ?_
  refine .q rfl (op_call (U := []) [] [] (fchoose_ev _ _ _) Tryd.func40 (by kernel_rfl) rfl rfl rfl (⟨⟨_, rfl, rfl, rfl⟩, ⟨_, rfl, rfl, rfl⟩, ⟨_, rfl, rfl, rfl⟩, trivial⟩) (trivial) (trivial) (trivial) rfl) trivial ?_
  refine .q rfl (op_move rfl) trivial ?_
  refine .q rfl (op_fieldAddr (m := 3) Tryd.underlying139 rfl sz48 rfl) trivial ?_
  refine .q rfl (op_loadPart (r := .agg64 (fl (z1))) (cs := (fl (z1)).map AV.u64) Tryd.underlying48 rfl sz48 rfl rfl rfl rfl rfl (Nat.le_of_ble_eq_true rfl)) trivial ?_
  refine .q rfl (op_fieldAddr (m := 3) Tryd.underlying139 rfl sz48 rfl) trivial ?_
  refine .q rfl (op_loadPart (r := .agg64 (fl (z2))) (cs := (fl (z2)).map AV.u64) Tryd.underlying48 rfl sz48 rfl rfl rfl rfl rfl (Nat.le_of_ble_eq_true rfl)) trivial ?_
  refine .q rfl (op_call (U := []) [] [] (fchoose_ev _ _ _) Tryd.func40 (by kernel_rfl) rfl rfl rfl (⟨⟨_, rfl, rfl, rfl⟩, ⟨_, rfl, rfl, rfl⟩, ⟨_, rfl, rfl, rfl⟩, trivial⟩) (trivial) (trivial) (trivial) rfl) trivial ?_
  refine .q rfl (op_buildPair Tryd.underlying139 rfl (by rfl) (by exact sz48) (by exact sz48) (by exact zero139) (by rfl) rfl rfl) trivial ?_
  refine .w rfl (op_storeRow sz139 rfl rfl rfl rfl rfl (rfl) (rfl)) trivial rfl rfl ?_
  refine .nil ?_
  show Ev _ _ _ _ _
  refine .ret ?_
  show RetOk _ _ _ _ _ _ _
  exact retc1 rfl (.inl rfl) ⟨_, _, _, _, rfl, rfl, rfl, rfl, (rfl), Tryd.underlying139, rfl, sz139⟩ trivial
set_option maxRecDepth 100000 in
theorem cbit_ev (K : List UInt8) (i : Nat) (hK : K.length = 32) (hi : i < 256) : Meets Tryd.prog 120 [.aggB K, .i64 (i : Int)] [] (.bool (kb K i)) [] := by
  refine meets_of_ev (nt := 14) Tryd.func120 rfl rfl (Nat.le_of_ble_eq_true rfl) ?_
  refine .seq ?_
  refine .region ?_
  refine .a (op_boxRow rfl rfl) trivial rfl ?_
  refine .q (op_assign rfl) trivial rfl ?_
  refine .nil ?_
  show Ev _ _ _ _ _
  refine .seq ?_
  refine .region ?_
  refine .q (op_move rfl) trivial rfl ?_
  refine .q (op_quoI rfl rfl ⟨by omega, ⟨by omega, by omega⟩, by omega⟩) trivial rfl ?_
  refine .q (ap_idx_arr Tryd.underlying22 inf5.sz rfl rfl (i := i / 8) (by omega) (by omega)) trivial rfl ?_
  refine .q (op_load Tryd.underlying5 rfl rfl rfl rfl (by show i / 8 < K.length; omega)) trivial rfl ?_
  refine .q (op_move rfl) trivial rfl ?_
  refine .q (op_remI rfl rfl ⟨by first | omega | (simp only [AV.len]; omega) | (simp only [AV.len, List.length_set]; omega) | assumption | (simp [AV.len]; done), by first | omega | (simp only [AV.len]; omega) | (simp only [AV.len, List.length_set]; omega) | assumption | (simp [AV.len]; done)⟩) trivial rfl ?_
  refine .q (op_shr8 (n := i % 8) rfl rfl (by simp only [shiftBy]; rw [show ((i : Nat) : Int) % 8 = ((i % 8 : Nat) : Int) by omega]) (by omega)) trivial rfl ?_
  refine .q (op_bin8 rfl rfl rfl) trivial rfl ?_
  refine .q (op_bin8 rfl rfl rfl) trivial rfl ?_
  refine .q (op_assign rfl) trivial rfl ?_
  refine .nil ?_
  show Ev _ _ _ _ _
  refine .ret ?_
  show RetOk _ _ _ _ _ _ _
  exact ret1v rfl (.inl rfl) rfl (congrArg AV.bool (bit_prog K i)) trivial
set_option maxRecDepth 100000 in
theorem cusable_ev (K : List UInt8) (hK : K.length = 32) : Meets Tryd.prog 97 [.aggB K] [] (.aggB (usL K)) [] := by
  refine meets_of_ev (nt := 16) Tryd.func97 rfl rfl (Nat.le_of_ble_eq_true rfl) ?_
  refine .seq ?_
  refine .region ?_
  refine .a (op_boxRow rfl rfl) trivial rfl ?_
  refine .a (op_allocRow zero22 rel_zero22 rfl) trivial rfl ?_
  refine .nil ?_
  show Ev _ _ _ _ _
  refine .seq ?_
  refine .region ?_
  refine .q (ap_idx_arr Tryd.underlying22 inf5.sz rfl rfl rfl (by first | omega | (skip; omega) | (skip; omega) | assumption | (simp; done))) trivial rfl ?_
  refine .q (op_load Tryd.underlying5 rfl rfl rfl rfl (by simp only [AV.len]; omega)) trivial rfl ?_
  refine .q (op_andNot8 rfl rfl) trivial rfl ?_
  refine .q (ap_idx_arr Tryd.underlying22 inf5.sz rfl rfl rfl (by first | omega | (skip; omega) | (skip; omega) | assumption | (simp; done))) trivial rfl ?_
  refine .w (op_store inf5.sz rfl rfl rfl rfl rfl (by simp only [AV.len]; omega)) trivial rfl ?_
  refine .nil ?_
  show Ev _ _ _ _ _
  refine .seq ?_
  refine .region ?_
  refine .q (ap_idx_arr Tryd.underlying22 inf5.sz rfl rfl rfl (by first | omega | (skip; omega) | (skip; omega) | assumption | (simp; done))) trivial rfl ?_
  refine .q (op_load Tryd.underlying5 rfl rfl rfl rfl (by simp only [AV.len, List.length_set]; omega)) trivial rfl ?_
  refine .q (op_andNot8 rfl rfl) trivial rfl ?_
  refine .q (ap_idx_arr Tryd.underlying22 inf5.sz rfl rfl rfl (by first | omega | (skip; omega) | (skip; omega) | assumption | (simp; done))) trivial rfl ?_
  refine .w (op_store inf5.sz rfl rfl rfl rfl rfl (by simp only [AV.len, List.length_set]; omega)) trivial rfl ?_
  refine .nil ?_
  show Ev _ _ _ _ _
  refine .seq ?_
  refine .region ?_
  refine .q (ap_idx_arr Tryd.underlying22 inf5.sz rfl rfl rfl (by first | omega | (skip; omega) | (skip; omega) | assumption | (simp; done))) trivial rfl ?_
  refine .q (op_load Tryd.underlying5 rfl rfl rfl rfl (by simp only [AV.len, List.length_set]; omega)) trivial rfl ?_
  refine .q (op_bin8 rfl rfl rfl) trivial rfl ?_
  refine .q (ap_idx_arr Tryd.underlying22 inf5.sz rfl rfl rfl (by first | omega | (skip; omega) | (skip; omega) | assumption | (simp; done))) trivial rfl ?_
  refine .w (op_store inf5.sz rfl rfl rfl rfl rfl (by simp only [AV.len, List.length_set]; omega)) trivial rfl ?_
  refine .nil ?_
  show Ev _ _ _ _ _
  refine .seq ?_
  refine .region ?_
  refine .q (op_loadRow Tryd.underlying22 rfl sz22 rfl rfl rfl (by simp only [AV.len, List.length_set]; omega)) trivial rfl ?_
  refine .as (.aggB (usL K)) rfl ?_
  refine .w (op_storeRow sz22 rfl rfl rfl rfl rfl (by first | exact (length_usL K).trans hK | (simp [AV.len]; done)) (by first | exact (length_usL K).trans hK | (simp [AV.len]; done))) trivial rfl ?_
  refine .nil ?_
  show Ev _ _ _ _ _
  refine .ret ?_
  show RetOk _ _ _ _ _ _ _
  exact retc1 rfl (.inl rfl) ⟨_, _, _, _, rfl, rfl, rfl, rfl, ((length_usL K).trans hK), Tryd.underlying22, rfl, sz22⟩ trivial
set_option maxHeartbeats 2000000 in
set_option maxRecDepth 100000 in
theorem ctimes_ev (e : Nat) (K : List UInt8) (x : Nat) (hK : K.length = 32) (hx : x < fp) : Meets Tryd.prog 96 [.aggB K, .agg64 (fl x)] (HP e) (.agg64 (fl (tmV K x))) [] := by
  refine meets_of_ev (nt := 47) Tryd.func96 rfl rfl (Nat.le_of_ble_eq_true rfl) ?_
  refine .seq ?_
  refine .region ?_
  refine .a (op_boxRow rfl rfl) trivial rfl ?_
  refine .a (op_boxRow rfl rfl) trivial rfl ?_
  refine .a (op_allocRow zero48 rel_zero48 rfl) trivial rfl ?_
  refine .nil ?_
  show Ev _ _ _ _ _
  refine .seq ?_
  refine .region ?_
  refine .q (op_call (U := []) [] [] (fsmall_ev _) Tryd.func46 (by kernel_rfl) rfl rfl rfl (⟨⟨_, rfl, rfl, rfl⟩, trivial⟩) (trivial) (trivial) (trivial) rfl) trivial rfl ?_
  refine .as (.agg64 (fl 1)) rfl ?_
  refine .q (op_buildFirst (r := fl 0) Tryd.underlying139 rfl (by exact sz48) (by exact sz48) (by exact zero139) rfl rfl) trivial rfl ?_
  refine .a (op_allocRow zero139 rel_zero139 rfl) trivial rfl ?_
  refine .w (op_storeRow sz139 rfl rfl rfl rfl rfl (rfl) (rfl)) trivial rfl ?_
  refine .nil ?_
  show Ev _ _ _ _ _
  refine .seq ?_
  refine .drawn [[], [], [0, 1], [], [0, 1, 2, 3]] [0, 1, 3, 4] [4] (by kernel_rfl) (by kernel_rfl) rfl ?_
  show DK _ [0, 1, 2, 3, 4] _ _ _
  refine .q rfl (op_loadRow Tryd.underlying48 rfl sz48 rfl rfl rfl (rfl)) trivial ?_
  refine .q rfl (op_call (U := []) [] [] (fsmall_ev _) Tryd.func46 (by kernel_rfl) rfl rfl rfl (⟨⟨_, rfl, rfl, rfl⟩, trivial⟩) (trivial) (trivial) (trivial) rfl) trivial ?_
  refine .as (.agg64 (fl 1)) rfl ?_
  refine .q rfl (op_buildPair Tryd.underlying139 rfl (by rfl) (by exact sz48) (by exact sz48) (by exact zero139) (by rfl) rfl rfl) trivial ?_
  refine .a rfl (op_allocRow zero139 rel_zero139 rfl) trivial rfl rfl ?_
  refine .w rfl (op_storeRow sz139 rfl rfl rfl rfl rfl (rfl) (rfl)) trivial rfl rfl ?_
  refine .nil ?_
  show Ev _ _ _ _ _
  refine .seq ?_
  refine .seq ?_
  refine .region ?_
  refine .q (op_move rfl) trivial rfl ?_
  refine .nil ?_
  show Ev _ _ _ _ _
  refine .block ?_
  refine Ev.loop (ι := { j : Nat // j ≤ 256 }) (fun j => ⟨[(2, .ptr 1000 0), (3, .ptr 1008 0), (4, .ptr 1016 0), (5, .ptr 1024 0), (6, .ptr 1056 0), (16, .i64 ((j.1 : Nat) : Int))], [(1000, some ⟨.aggB K, 22, true⟩), (1008, some ⟨.agg64 (fl x), 48, true⟩), (1016, some ⟨.agg64 (List.replicate 4 0), 48, true⟩), (1024, some ⟨.agg64 (fl ((lad K x j.1).1) ++ fl ((lad K x j.1).2.1)), 139, true⟩), (1056, some ⟨.agg64 (fl ((lad K x j.1).2.2.1) ++ fl ((lad K x j.1).2.2.2)), 139, true⟩), (20, some ⟨.agg64 primeL, e, false⟩)], 1072⟩) (fun j => 256 - j.1) ⟨0, Nat.zero_le _⟩ (StLe.mk [(1000, 1000), (1008, 1008), (1016, 1016), (1024, 1024), (1056, 1056)] rfl rfl ⟨⟨_, rfl, by first | rfl | (simp only [AV.ren]; congr 1; omega), rfl⟩, ⟨_, rfl, by first | rfl | (simp only [AV.ren]; congr 1; omega), rfl⟩, ⟨_, rfl, by first | rfl | (simp only [AV.ren]; congr 1; omega), rfl⟩, ⟨_, rfl, by first | rfl | (simp only [AV.ren]; congr 1; omega), rfl⟩, ⟨_, rfl, by first | rfl | (simp only [AV.ren]; congr 1; omega), rfl⟩, ⟨_, rfl, by first | rfl | (simp only [AV.ren]; congr 1; omega), rfl⟩, trivial⟩ ⟨⟨_, _, rfl, rfl, by first | rfl | (simp only [AV.ren]; congr 1; omega), rfl, id, rfl⟩, ⟨_, _, rfl, rfl, by first | rfl | (simp only [AV.ren]; congr 1; omega), rfl, id, rfl⟩, ⟨_, _, rfl, rfl, by first | rfl | (simp only [AV.ren]; congr 1; omega), rfl, id, rfl⟩, ⟨_, _, rfl, rfl, by first | rfl | (simp only [AV.ren]; congr 1; omega), rfl, id, rfl⟩, ⟨_, _, rfl, rfl, by first | rfl | (simp only [AV.ren]; congr 1; omega), rfl, id, rfl⟩, ⟨_, _, rfl, rfl, by first | rfl | (simp only [AV.ren]; congr 1; omega), rfl, id, rfl⟩, trivial⟩) ?_
  rintro ⟨j, hj⟩
  dsimp only
  have hb := lad_lt K x hx j
  refine .seq ?_
  refine .region ?_
  refine .q (op_cmpI rfl rfl rfl) trivial rfl ?_
  refine .nil ?_
  show Ev _ _ _ _ _
  refine .seq ?_
  refine .cond rfl (fun hc17 => ?_) (fun hc17 => ?_)
  · first | replace hc17 := of_decide_eq_true hc17 | replace hc17 := of_decide_eq_false hc17 | replace hc17 := eq_of_beq hc17 | replace hc17 := ne_of_beq_false hc17 | simp only [bne_iff_ne, ne_eq] at hc17 | simp only [bne_eq_false_iff_eq] at hc17
    refine .skip ?_
    show Ev _ _ _ _ _
    refine .seq ?_
    refine .block ?_
    refine .seq ?_
    refine .region ?_
    refine .q (op_move rfl) trivial rfl ?_
    refine .q (op_assign rfl) trivial rfl ?_
    refine .nil ?_
    show Ev _ _ _ _ _
    refine .seq ?_
    refine .region ?_
    refine .q (op_loadRow Tryd.underlying22 rfl sz22 rfl rfl rfl (hK)) trivial rfl ?_
    refine .q (op_move rfl) trivial rfl ?_
    refine .q (op_subI rfl rfl ⟨by first | omega | (simp only [AV.len]; omega) | (simp only [AV.len, List.length_set]; omega) | assumption | (simp [AV.len]; done), by first | omega | (simp only [AV.len]; omega) | (simp only [AV.len, List.length_set]; omega) | assumption | (simp [AV.len]; done)⟩) trivial rfl ?_
    refine .as (.i64 ((255 - j : Nat) : Int)) (congrArg AV.i64 (by omega)) ?_
    refine .q (op_call (U := []) [] [] (cbit_ev K (255 - j) hK (by omega)) Tryd.func120 (by kernel_rfl) rfl rfl rfl (⟨⟨_, rfl, rfl, rfl⟩, ⟨_, rfl, rfl, rfl⟩, trivial⟩) (trivial) (trivial) (trivial) rfl) trivial rfl ?_
    refine .q (op_assign rfl) trivial rfl ?_
    refine .nil ?_
    show Ev _ _ _ _ _
    refine .seq ?_
    refine .region ?_
    refine .q (op_loadRow Tryd.underlying139 rfl sz139 rfl rfl rfl (rfl)) trivial rfl ?_
    refine .q (op_loadRow Tryd.underlying139 rfl sz139 rfl rfl rfl (rfl)) trivial rfl ?_
    refine .q (op_loadRow Tryd.underlying48 rfl sz48 rfl rfl rfl (rfl)) trivial rfl ?_
    refine .q (op_call (U := []) [] [] (csum_ev e _ _ _ _ _ hb.1 hb.2.1 hb.2.2.1 hb.2.2.2 hx) Tryd.func121 (by kernel_rfl) rfl rfl rfl (⟨⟨_, rfl, rfl, rfl⟩, ⟨_, rfl, rfl, rfl⟩, ⟨_, rfl, rfl, rfl⟩, trivial⟩) (⟨⟨_, _, rfl, rfl, rfl, rfl, id, rfl⟩, trivial⟩) (trivial) (⟨(fun h => by cases h), trivial⟩) rfl) trivial rfl ?_
    refine .a (op_allocRow zero139 rel_zero139 rfl) trivial rfl ?_
    refine .w (op_storeRow sz139 rfl rfl rfl rfl rfl (rfl) (rfl)) trivial rfl ?_
    refine .nil ?_
    show Ev _ _ _ _ _
    refine .seq ?_
    refine .region ?_
    refine .q (op_move rfl) trivial rfl ?_
    refine .q (op_loadRow Tryd.underlying139 rfl sz139 rfl rfl rfl (rfl)) trivial rfl ?_
    refine .q (op_loadRow Tryd.underlying139 rfl sz139 rfl rfl rfl (rfl)) trivial rfl ?_
    refine .q (op_call (U := []) [] [] (cchoose_ev _ _ _ _ _) Tryd.func123 (by kernel_rfl) rfl rfl rfl (⟨⟨_, rfl, rfl, rfl⟩, ⟨_, rfl, rfl, rfl⟩, ⟨_, rfl, rfl, rfl⟩, trivial⟩) (trivial) (trivial) (trivial) rfl) trivial rfl ?_
    refine .q (op_call (U := []) [] [] (cdouble_ev e _ _ (by split <;> first | exact hb.1 | exact hb.2.2.1) (by split <;> first | exact hb.2.1 | exact hb.2.2.2)) Tryd.func122 (by kernel_rfl) rfl rfl rfl (⟨⟨_, rfl, rfl, rfl⟩, trivial⟩) (⟨⟨_, _, rfl, rfl, rfl, rfl, id, rfl⟩, trivial⟩) (trivial) (⟨(fun h => by cases h), trivial⟩) rfl) trivial rfl ?_
    refine .a (op_allocRow zero139 rel_zero139 rfl) trivial rfl ?_
    refine .w (op_storeRow sz139 rfl rfl rfl rfl rfl (rfl) (rfl)) trivial rfl ?_
    refine .nil ?_
    show Ev _ _ _ _ _
    refine .drawn [[], [], [], [0, 1, 2], [], [], [], [0, 1, 2, 3, 4, 5, 6], [0, 1, 2, 3, 4, 5, 6, 7], [0, 1, 2, 3, 4, 5, 6, 7, 8]] [1, 2, 3, 5, 6, 7, 8, 9] [8, 9] (by kernel_rfl) (by kernel_rfl) rfl ?_
    show DK _ [0, 1, 2, 3, 4, 5, 6, 7, 8, 9] _ _ _
    refine .q rfl (op_move rfl) trivial ?_
    refine .q rfl (op_loadRow Tryd.underlying139 rfl sz139 rfl rfl rfl (rfl)) trivial ?_
    refine .q rfl (op_loadRow Tryd.underlying139 rfl sz139 rfl rfl rfl (rfl)) trivial ?_
    refine .q rfl (op_call (U := []) [] [] (cchoose_ev _ _ _ _ _) Tryd.func123 (by kernel_rfl) rfl rfl rfl (⟨⟨_, rfl, rfl, rfl⟩, ⟨_, rfl, rfl, rfl⟩, ⟨_, rfl, rfl, rfl⟩, trivial⟩) (trivial) (trivial) (trivial) rfl) trivial ?_
    refine .q rfl (op_move rfl) trivial ?_
    refine .q rfl (op_loadRow Tryd.underlying139 rfl sz139 rfl rfl rfl (rfl)) trivial ?_
    refine .q rfl (op_loadRow Tryd.underlying139 rfl sz139 rfl rfl rfl (rfl)) trivial ?_
    refine .q rfl (op_call (U := []) [] [] (cchoose_ev _ _ _ _ _) Tryd.func123 (by kernel_rfl) rfl rfl rfl (⟨⟨_, rfl, rfl, rfl⟩, ⟨_, rfl, rfl, rfl⟩, ⟨_, rfl, rfl, rfl⟩, trivial⟩) (trivial) (trivial) (trivial) rfl) trivial ?_
    refine .w rfl (op_storeRow sz139 rfl rfl rfl rfl rfl (rfl) (rfl)) trivial rfl rfl ?_
    refine .w rfl (op_storeRow sz139 rfl rfl rfl rfl rfl (rfl) (rfl)) trivial rfl rfl ?_
    refine .nil ?_
    show Ev _ _ _ _ _
    refine .region ?_
    refine .q (op_addI rfl rfl ⟨by first | omega | (simp only [AV.len]; omega) | (simp only [AV.len, List.length_set]; omega) | assumption | (simp [AV.len]; done), by first | omega | (simp only [AV.len]; omega) | (simp only [AV.len, List.length_set]; omega) | assumption | (simp [AV.len]; done)⟩) trivial rfl ?_
    refine .q (op_move rfl) trivial rfl ?_
    refine .nil ?_
    exact ⟨⟨j + 1, by omega⟩, by show 256 - (j + 1) < 256 - j; omega, StLe.mk [(1000, 1000), (1008, 1008), (1016, 1016), (1024, 1024), (1056, 1056)] rfl rfl ⟨⟨_, rfl, by first | rfl | (simp only [AV.ren]; congr 1; omega), rfl⟩, ⟨_, rfl, by first | rfl | (simp only [AV.ren]; congr 1; omega), rfl⟩, ⟨_, rfl, by first | rfl | (simp only [AV.ren]; congr 1; omega), rfl⟩, ⟨_, rfl, by first | rfl | (simp only [AV.ren]; congr 1; omega), rfl⟩, ⟨_, rfl, by first | rfl | (simp only [AV.ren]; congr 1; omega), rfl⟩, ⟨_, rfl, by first | rfl | (simp only [AV.ren]; congr 1; omega), rfl⟩, trivial⟩ ⟨⟨_, _, rfl, rfl, by first | rfl | (simp only [AV.ren]; congr 1; omega), rfl, id, rfl⟩, ⟨_, _, rfl, rfl, by first | rfl | (simp only [AV.ren]; congr 1; omega), rfl, id, rfl⟩, ⟨_, _, rfl, rfl, by first | rfl | (simp only [AV.ren]; congr 1; omega), rfl, id, rfl⟩, ⟨_, _, rfl, rfl, by (simp only [AV.ren, lad, lstep]; done), rfl, id, rfl⟩, ⟨_, _, rfl, rfl, by (simp only [AV.ren, lad, lstep]; done), rfl, id, rfl⟩, ⟨_, _, rfl, rfl, by first | rfl | (simp only [AV.ren]; congr 1; omega), rfl, id, rfl⟩, trivial⟩⟩
  · first | replace hc17 := of_decide_eq_true hc17 | replace hc17 := of_decide_eq_false hc17 | replace hc17 := eq_of_beq hc17 | replace hc17 := ne_of_beq_false hc17 | simp only [bne_iff_ne, ne_eq] at hc17 | simp only [bne_eq_false_iff_eq] at hc17
    refine .exit ?_
    show Ev _ _ _ _ _
    have ej : j = 256 := by omega
    refine Ev.weak (st2 := ⟨[(2, .ptr 1000 0), (3, .ptr 1008 0), (4, .ptr 1016 0), (5, .ptr 1024 0), (6, .ptr 1056 0), (16, .i64 (((256) : Nat) : Int))], [(1000, some ⟨.aggB K, 22, true⟩), (1008, some ⟨.agg64 (fl x), 48, true⟩), (1016, some ⟨.agg64 (List.replicate 4 0), 48, true⟩), (1024, some ⟨.agg64 (fl ((lad K x (256)).1) ++ fl ((lad K x (256)).2.1)), 139, true⟩), (1056, some ⟨.agg64 (fl ((lad K x (256)).2.2.1) ++ fl ((lad K x (256)).2.2.2)), 139, true⟩), (20, some ⟨.agg64 primeL, e, false⟩)], 1072⟩) (StLe.mk [(1000, 1000), (1008, 1008), (1016, 1016), (1024, 1024), (1056, 1056)] rfl rfl ⟨⟨_, rfl, by first | (simp only [AV.ren]; done) | (simp only [AV.ren]; rw [ej]; done) | rfl, rfl⟩, ⟨_, rfl, by first | (simp only [AV.ren]; done) | (simp only [AV.ren]; rw [ej]; done) | rfl, rfl⟩, ⟨_, rfl, by first | (simp only [AV.ren]; done) | (simp only [AV.ren]; rw [ej]; done) | rfl, rfl⟩, ⟨_, rfl, by first | (simp only [AV.ren]; done) | (simp only [AV.ren]; rw [ej]; done) | rfl, rfl⟩, ⟨_, rfl, by first | (simp only [AV.ren]; done) | (simp only [AV.ren]; rw [ej]; done) | rfl, rfl⟩, ⟨_, rfl, by first | (simp only [AV.ren]; done) | (simp only [AV.ren]; rw [ej]; done) | rfl, rfl⟩, trivial⟩ ⟨⟨_, _, rfl, rfl, by first | (simp only [AV.ren]; done) | (simp only [AV.ren]; rw [ej]; done) | rfl, rfl, id, rfl⟩, ⟨_, _, rfl, rfl, by first | (simp only [AV.ren]; done) | (simp only [AV.ren]; rw [ej]; done) | rfl, rfl, id, rfl⟩, ⟨_, _, rfl, rfl, by first | (simp only [AV.ren]; done) | (simp only [AV.ren]; rw [ej]; done) | rfl, rfl, id, rfl⟩, ⟨_, _, rfl, rfl, by first | (simp only [AV.ren]; done) | (simp only [AV.ren]; rw [ej]; done) | rfl, rfl, id, rfl⟩, ⟨_, _, rfl, rfl, by first | (simp only [AV.ren]; done) | (simp only [AV.ren]; rw [ej]; done) | rfl, rfl, id, rfl⟩, ⟨_, _, rfl, rfl, by first | (simp only [AV.ren]; done) | (simp only [AV.ren]; rw [ej]; done) | rfl, rfl, id, rfl⟩, trivial⟩) ?_
    refine .seq ?_
    refine .drawn [[], [0], [], [2], [2, 3], [0, 1, 2, 3, 4], [0, 1, 2, 3, 4, 5]] [1, 3, 4, 5, 6] [6] (by kernel_rfl) (by kernel_rfl) rfl ?_
    show DK _ [0, 1, 2, 3, 4, 5, 6] _ _ _
    have hb := lad_lt K x hx 256
    refine .q rfl (op_fieldAddr (m := 3) Tryd.underlying139 rfl sz48 rfl) trivial ?_
    refine .q rfl (op_loadPart (r := .agg64 (fl ((lad K x 256).1))) (cs := (fl ((lad K x 256).1)).map AV.u64) Tryd.underlying48 rfl sz48 rfl rfl rfl rfl rfl (Nat.le_of_ble_eq_true rfl)) trivial ?_
    refine .q rfl (op_fieldAddr (m := 3) Tryd.underlying139 rfl sz48 rfl) trivial ?_
    refine .q rfl (op_loadPart (r := .agg64 (fl ((lad K x 256).2.1))) (cs := (fl ((lad K x 256).2.1)).map AV.u64) Tryd.underlying48 rfl sz48 rfl rfl rfl rfl rfl (Nat.le_of_ble_eq_true rfl)) trivial ?_
    refine .q rfl (op_call (U := []) [] [] (finvert_ev _ (by first | assumption | exact fmod_lt _ | exact hb.1 | exact hb.2.1 | decide)) Tryd.func124 (by kernel_rfl) rfl rfl rfl (⟨⟨_, rfl, rfl, rfl⟩, trivial⟩) (trivial) (trivial) (trivial) rfl) trivial ?_
    refine .q rfl (op_call (U := []) [] [] (fmul_ev _ _ (by first | assumption | exact fmod_lt _ | exact hb.1 | exact hb.2.1 | decide) (by first | assumption | exact fmod_lt _ | exact hb.1 | exact hb.2.1 | decide)) Tryd.func35 (by kernel_rfl) rfl rfl rfl (⟨⟨_, rfl, rfl, rfl⟩, ⟨_, rfl, rfl, rfl⟩, trivial⟩) (trivial) (trivial) (trivial) rfl) trivial ?_
    refine .as (.agg64 (fl (tmV K x))) rfl ?_
    refine .w rfl (op_storeRow sz48 rfl rfl rfl rfl rfl (rfl) (rfl)) trivial rfl rfl ?_
    refine .nil ?_
    show Ev _ _ _ _ _
    refine .ret ?_
    show RetOk _ _ _ _ _ _ _
    exact retc1 rfl (.inl rfl) ⟨_, _, _, _, rfl, rfl, rfl, rfl, (rfl), Tryd.underlying48, rfl, sz48⟩ trivial
end Go.Proofs.YtjhpelajhkhlcaaDoor
namespace Go.Proofs.YtjhpelajhkhlcaaDoor
open Go.RowKit
set_option maxRecDepth 100000 in
theorem cbase_ev (e : Nat) (K : List UInt8) (hK : K.length = 32) : Meets Tryd.prog 51 [.aggB K] (HP e) (.aggB (bsN (tmV (usL K) 9) 32)) [] := by
  refine meets_of_ev (nt := 8) Tryd.func51 rfl rfl (Nat.le_of_ble_eq_true rfl) ?_
  refine .seq ?_
  refine .region ?_
  refine .a (op_boxRow rfl rfl) trivial rfl ?_
  refine .a (op_allocRow zero22 rel_zero22 rfl) trivial rfl ?_
  refine .nil ?_
  show Ev _ _ _ _ _
  refine .seq ?_
  refine .region ?_
  refine .q (op_loadRow Tryd.underlying22 rfl sz22 rfl rfl rfl (hK)) trivial rfl ?_
  refine .q (op_call (U := []) [] [] (cusable_ev K hK) Tryd.func97 (by kernel_rfl) rfl rfl rfl (⟨⟨_, rfl, rfl, rfl⟩, trivial⟩) (trivial) (trivial) (trivial) rfl) trivial rfl ?_
  refine .q (op_call (U := []) [] [] (fsmall_ev _) Tryd.func46 (by kernel_rfl) rfl rfl rfl (⟨⟨_, rfl, rfl, rfl⟩, trivial⟩) (trivial) (trivial) (trivial) rfl) trivial rfl ?_
  refine .as (.agg64 (fl 9)) rfl ?_
  refine .q (op_call (U := []) [] [] (ctimes_ev e (usL K) 9 ((length_usL K).trans hK) (show 9 < fp by decide)) Tryd.func96 (by kernel_rfl) rfl rfl rfl (⟨⟨_, rfl, rfl, rfl⟩, ⟨_, rfl, rfl, rfl⟩, trivial⟩) (⟨⟨_, _, rfl, rfl, rfl, rfl, id, rfl⟩, trivial⟩) (trivial) (⟨(fun h => by cases h), trivial⟩) rfl) trivial rfl ?_
  refine .as (.agg64 (fl (tmV (usL K) 9))) rfl ?_
  refine .q (op_call (U := []) [] [] (fbytes_ev (tmV (usL K) 9)) Tryd.func81 (by kernel_rfl) rfl rfl rfl (⟨⟨_, rfl, rfl, rfl⟩, trivial⟩) (trivial) (trivial) (trivial) rfl) trivial rfl ?_
  refine .as (.aggB (bsN (tmV (usL K) 9) 32)) rfl ?_
  refine .w (op_storeRow sz22 rfl rfl rfl rfl rfl (by simp [AV.len, length_bsN]) (by simp [AV.len])) trivial rfl ?_
  refine .nil ?_
  show Ev _ _ _ _ _
  refine .ret ?_
  show RetOk _ _ _ _ _ _ _
  exact retc1 rfl (.inl rfl) ⟨_, _, _, _, rfl, rfl, rfl, rfl, (length_bsN (tmV (usL K) 9) 32), Tryd.underlying22, rfl, sz22⟩ trivial
set_option maxRecDepth 100000 in
theorem cmult_ev (e : Nat) (K Q : List UInt8) (hK : K.length = 32) (hQ : Q.length = 32) : Meets Tryd.prog 49 [.aggB K, .aggB Q] (HP e) (.tup [.aggB (bsN (tmV (usL K) (ofV Q)) 32), .bool (!decide (tmV (usL K) (ofV Q) = 0))]) [] := by
  refine meets_of_ev (nt := 18) Tryd.func49 rfl rfl (Nat.le_of_ble_eq_true rfl) ?_
  refine .seq ?_
  refine .region ?_
  refine .a (op_boxRow rfl rfl) trivial rfl ?_
  refine .a (op_boxRow rfl rfl) trivial rfl ?_
  refine .a (op_allocRow zero22 rel_zero22 rfl) trivial rfl ?_
  refine .q (op_assign rfl) trivial rfl ?_
  refine .nil ?_
  show Ev _ _ _ _ _
  refine .seq ?_
  refine .drawn [[], [0], [], [2], [0, 1, 2, 3], [0, 1, 2, 3, 4], [], [0, 1, 2, 3, 4, 5, 6]] [0, 1, 2, 3, 4, 5, 6, 7] [7] (by kernel_rfl) (by kernel_rfl) rfl ?_
  show DK _ [0, 1, 2, 3, 4, 5, 6, 7] _ _ _
  refine .q rfl (op_loadRow Tryd.underlying22 rfl sz22 rfl rfl rfl (hK)) trivial ?_
  refine .q rfl (op_call (U := []) [] [] (cusable_ev K hK) Tryd.func97 (by kernel_rfl) rfl rfl rfl (⟨⟨_, rfl, rfl, rfl⟩, trivial⟩) (trivial) (trivial) (trivial) rfl) trivial ?_
  refine .q rfl (ap_slice_arr_hi Tryd.underlying22 inf5.sz rfl rfl (by first | omega | (simp [AV.len, hQ]; done)) (by decide) rfl (by first | omega | (simp [AV.len, hQ]; done))) trivial ?_
  refine .q rfl (op_bytes_str Tryd.underlying27 Tryd.underlying5 Tryd.underlying9 rfl rfl rfl (by first | omega | (simp [hQ]; done))) trivial ?_
  refine .as (.str Q) (by rw [List.drop_zero, List.take_of_length_le (Nat.le_of_eq hQ)]) ?_
  refine .q rfl (op_call (U := []) [] [] (fof_ev Q (by omega)) Tryd.func27 (by kernel_rfl) rfl rfl rfl (⟨⟨_, rfl, rfl, rfl⟩, trivial⟩) (trivial) (trivial) (trivial) rfl) trivial ?_
  refine .q rfl (op_call (U := []) [] [] (ctimes_ev e (usL K) (ofV Q) ((length_usL K).trans hK) (ofV_lt Q)) Tryd.func96 (by kernel_rfl) rfl rfl rfl (⟨⟨_, rfl, rfl, rfl⟩, ⟨_, rfl, rfl, rfl⟩, trivial⟩) (⟨⟨_, _, rfl, rfl, rfl, rfl, id, rfl⟩, trivial⟩) (trivial) (⟨(fun h => by cases h), trivial⟩) rfl) trivial ?_
  refine .as (.agg64 (fl (tmV (usL K) (ofV Q)))) rfl ?_
  refine .a rfl (op_allocRow zero48 rel_zero48 rfl) trivial rfl rfl ?_
  refine .w rfl (op_storeRow sz48 rfl rfl rfl rfl rfl (rfl) (rfl)) trivial rfl rfl ?_
  refine .nil ?_
  show Ev _ _ _ _ _
  refine .seq ?_
  refine .drawn [[], [0], [], [0, 1, 2], [0, 1, 2, 3], [0, 1, 2, 3], [0, 1, 2, 3, 4, 5]] [0, 1, 2, 3, 5] [5] (by kernel_rfl) (by kernel_rfl) rfl ?_
  show DK _ [0, 1, 2, 3, 4, 5, 6] _ _ _
  refine .q rfl (op_loadRow Tryd.underlying48 rfl sz48 rfl rfl rfl (rfl)) trivial ?_
  refine .q rfl (op_call (U := []) [] [] (fbytes_ev (tmV (usL K) (ofV Q))) Tryd.func81 (by kernel_rfl) rfl rfl rfl (⟨⟨_, rfl, rfl, rfl⟩, trivial⟩) (trivial) (trivial) (trivial) rfl) trivial ?_
  refine .as (.aggB (bsN (tmV (usL K) (ofV Q)) 32)) rfl ?_
  refine .q rfl (op_loadRow Tryd.underlying48 rfl sz48 rfl rfl rfl (rfl)) trivial ?_
  refine .q rfl (op_call (U := []) [] [] (fzero_ev (tmV (usL K) (ofV Q)) (tmV_lt _ _)) Tryd.func42 (by kernel_rfl) rfl rfl rfl (⟨⟨_, rfl, rfl, rfl⟩, trivial⟩) (trivial) (trivial) (trivial) rfl) trivial ?_
  refine .q rfl (op_notB rfl) trivial ?_
  refine .w rfl (op_storeRow sz22 rfl rfl rfl rfl rfl (by simp [AV.len, length_bsN]) (by simp [AV.len])) trivial rfl rfl ?_
  refine .q rfl (op_assign rfl) trivial ?_
  refine .nil ?_
  show Ev _ _ _ _ _
  refine .ret ?_
  show RetOk _ _ _ _ _ _ _
  exact retc2 rfl (.inl rfl) ⟨_, _, _, _, rfl, rfl, rfl, rfl, (length_bsN (tmV (usL K) (ofV Q)) 32), Tryd.underlying22, rfl, sz22⟩ rfl trivial
end Go.Proofs.YtjhpelajhkhlcaaDoor
namespace Go.Proofs.YtjhpelajhkhlcaaDoor
open Go.RowKit
theorem length_ka6 : ka6.length = 32 := rfl
theorem length_kb6 : kb6.length = 32 := rfl
theorem base6 (K : List UInt8) : tmV (usL K) 9 = tmC (usL K) 9 := tmC_eq _ _ (by decide)
def w6a : Nat := tmV (usL ka6) (ofV (bsN (tmV (usL kb6) 9) 32))
def w6b : Nat := tmV (usL kb6) (ofV (bsN (tmV (usL ka6) 9) 32))
theorem w6a_eq : w6a = tmC (usL ka6) (tmC (usL kb6) 9) := by
  unfold w6a
  rw [of_bytes _ (tmV_lt _ _), tmC_eq _ _ (tmV_lt _ _), base6]
theorem w6b_eq : w6b = tmC (usL kb6) (tmC (usL ka6) 9) := by
  unfold w6b
  rw [of_bytes _ (tmV_lt _ _), tmC_eq _ _ (tmV_lt _ _), base6]
theorem w6_same : w6a = w6b := by rw [w6a_eq, w6b_eq, fact6a]
theorem w6_ne : w6a ≠ 0 := by rw [w6a_eq]; exact fact6b
theorem w6_lt : w6a < fp := tmV_lt _ _
theorem bsN_zero : List.replicate 32 (0 : UInt8) = bsN 0 32 := by decide
theorem bs_ne (v : Nat) (h : v < fp) : (bsN v 32 != List.replicate 32 0) = !decide (v = 0) := by
  rw [bsN_zero]
  by_cases c : v = 0
  · subst c; simp
  · have : bsN v 32 ≠ bsN 0 32 := fun e => c (bsN_inj h fpos e)
    rw [decide_eq_false c]
    simpa using this
theorem bases_ne : (bsN (tmV (usL ka6) 9) 32 != bsN (tmV (usL kb6) 9) 32) = true := by
  have : bsN (tmV (usL ka6) 9) 32 ≠ bsN (tmV (usL kb6) 9) 32 := fun e => fact6c (by
    have := bsN_inj (tmV_lt _ _) (tmV_lt _ _) e
    rw [base6, base6] at this; exact this)
  simpa using this
set_option maxHeartbeats 1000000 in
set_option maxRecDepth 100000 in
theorem awake6_ev (e : Nat) : Meets Tryd.prog 48 [] (HP e) (.bool true) [] := by
  refine meets_of_ev (nt := 44) Tryd.func48 rfl rfl (Nat.le_of_ble_eq_true rfl) ?_
  refine .seq ?_
  refine .region ?_
  refine .q (op_assign rfl) trivial rfl ?_
  refine .nil ?_
  show Ev _ _ _ _ _
  refine .seq ?_
  refine .region ?_
  refine .q (op_buildArr (us := [(8, _)]) Tryd.underlying22 inf5.sz zero22 rel_zero22 rfl (by decide) ⟨rfl, rfl, rfl, trivial⟩ rfl) trivial rfl ?_
  refine .as (.aggB ka6) rfl ?_
  refine .q (op_buildArr (us := [(20, _)]) Tryd.underlying22 inf5.sz zero22 rel_zero22 rfl (by decide) ⟨rfl, rfl, rfl, trivial⟩ rfl) trivial rfl ?_
  refine .as (.aggB kb6) rfl ?_
  refine .a (op_allocRow zero22 rel_zero22 rfl) trivial rfl ?_
  refine .a (op_allocRow zero22 rel_zero22 rfl) trivial rfl ?_
  refine .w (op_storeRow sz22 rfl rfl rfl rfl rfl (by simp only [AV.len, length_ka6] <;> first | assumption | omega) (by simp only [AV.len, List.length_replicate] <;> first | assumption | omega)) trivial rfl ?_
  refine .w (op_storeRow sz22 rfl rfl rfl rfl rfl (by simp only [AV.len, length_kb6] <;> first | assumption | omega) (by simp only [AV.len, List.length_replicate] <;> first | assumption | omega)) trivial rfl ?_
  refine .nil ?_
  show Ev _ _ _ _ _
  refine .seq ?_
  refine .drawn [[], [], [1], [0, 1, 2], [0, 1, 2, 3], [0, 1, 2, 3, 4], [0, 1, 2, 3, 4], [], [0, 1, 2, 3, 4, 5, 7], [0, 1, 2, 3, 4, 5, 6, 7, 8]] [0, 1, 2, 3, 7, 8] [8] (by kernel_rfl) (by kernel_rfl) rfl ?_
  show DK _ [0, 1, 2, 3, 4, 5, 6, 7, 8, 9] _ _ _
  refine .q rfl (op_loadRow Tryd.underlying22 rfl sz22 rfl rfl rfl (by simp only [AV.len, length_ka6] <;> first | assumption | omega)) trivial ?_
  refine .q rfl (op_loadRow Tryd.underlying22 rfl sz22 rfl rfl rfl (by simp only [AV.len, length_kb6] <;> first | assumption | omega)) trivial ?_
  refine .q rfl (op_call (U := []) [] [] (cbase_ev e kb6 rfl) Tryd.func51 (by kernel_rfl) rfl rfl rfl (⟨⟨_, rfl, rfl, rfl⟩, trivial⟩) (⟨⟨_, _, rfl, rfl, rfl, rfl, id, rfl⟩, trivial⟩) (trivial) (⟨(fun h => by cases h), trivial⟩) rfl) trivial ?_
  refine .as (.aggB (bsN (tmV (usL kb6) 9) 32)) rfl ?_
  refine .q rfl (op_call (U := []) [] [] (cmult_ev e ka6 (bsN (tmV (usL kb6) 9) 32) rfl (length_bsN _ 32)) Tryd.func49 (by kernel_rfl) rfl rfl rfl (⟨⟨_, rfl, rfl, rfl⟩, ⟨_, rfl, rfl, rfl⟩, trivial⟩) (⟨⟨_, _, rfl, rfl, rfl, rfl, id, rfl⟩, trivial⟩) (trivial) (⟨(fun h => by cases h), trivial⟩) rfl) trivial ?_
  refine .as (.tup [.aggB (bsN w6a 32), .bool (!decide (w6a = 0))]) rfl ?_
  refine .q rfl (op_move rfl) trivial ?_
  refine .q rfl (op_extract rfl rfl) trivial ?_
  refine .q rfl (op_extract rfl rfl) trivial ?_
  refine .a rfl (op_allocRow zero22 rel_zero22 rfl) trivial rfl rfl ?_
  refine .w rfl (op_storeRow sz22 rfl rfl rfl rfl rfl (by simp only [AV.len, length_bsN] <;> first | assumption | omega) (by simp only [AV.len, List.length_replicate] <;> first | assumption | omega)) trivial rfl rfl ?_
  refine .q rfl (op_assign rfl) trivial ?_
  refine .nil ?_
  show Ev _ _ _ _ _
  refine .seq ?_
  refine .drawn [[], [], [1], [0, 1, 2], [0, 1, 2, 3], [0, 1, 2, 3, 4], [0, 1, 2, 3, 4], [], [0, 1, 2, 3, 4, 5, 7], [0, 1, 2, 3, 4, 5, 6, 7, 8]] [0, 1, 2, 3, 7, 8] [8] (by kernel_rfl) (by kernel_rfl) rfl ?_
  show DK _ [0, 1, 2, 3, 4, 5, 6, 7, 8, 9] _ _ _
  refine .q rfl (op_loadRow Tryd.underlying22 rfl sz22 rfl rfl rfl (by simp only [AV.len, length_kb6] <;> first | assumption | omega)) trivial ?_
  refine .q rfl (op_loadRow Tryd.underlying22 rfl sz22 rfl rfl rfl (by simp only [AV.len, length_ka6] <;> first | assumption | omega)) trivial ?_
  refine .q rfl (op_call (U := []) [] [] (cbase_ev e ka6 rfl) Tryd.func51 (by kernel_rfl) rfl rfl rfl (⟨⟨_, rfl, rfl, rfl⟩, trivial⟩) (⟨⟨_, _, rfl, rfl, rfl, rfl, id, rfl⟩, trivial⟩) (trivial) (⟨(fun h => by cases h), trivial⟩) rfl) trivial ?_
  refine .as (.aggB (bsN (tmV (usL ka6) 9) 32)) rfl ?_
  refine .q rfl (op_call (U := []) [] [] (cmult_ev e kb6 (bsN (tmV (usL ka6) 9) 32) rfl (length_bsN _ 32)) Tryd.func49 (by kernel_rfl) rfl rfl rfl (⟨⟨_, rfl, rfl, rfl⟩, ⟨_, rfl, rfl, rfl⟩, trivial⟩) (⟨⟨_, _, rfl, rfl, rfl, rfl, id, rfl⟩, trivial⟩) (trivial) (⟨(fun h => by cases h), trivial⟩) rfl) trivial ?_
  refine .as (.tup [.aggB (bsN w6b 32), .bool (!decide (w6b = 0))]) rfl ?_
  refine .q rfl (op_move rfl) trivial ?_
  refine .q rfl (op_extract rfl rfl) trivial ?_
  refine .q rfl (op_extract rfl rfl) trivial ?_
  refine .a rfl (op_allocRow zero22 rel_zero22 rfl) trivial rfl rfl ?_
  refine .w rfl (op_storeRow sz22 rfl rfl rfl rfl rfl (by simp only [AV.len, length_bsN] <;> first | assumption | omega) (by simp only [AV.len, List.length_replicate] <;> first | assumption | omega)) trivial rfl rfl ?_
  refine .q rfl (op_assign rfl) trivial ?_
  refine .nil ?_
  show Ev _ _ _ _ _
  refine .seq ?_
  refine .drawn [[], [], [0, 1], [0, 1, 2], [0, 1, 2, 3], [0, 1, 2, 3, 4], [0, 1, 2, 3, 4, 5], [0, 1, 2, 3, 4, 5, 6], [0, 1, 2, 3, 4, 5, 6, 7], [0, 1, 2, 3, 4, 5, 6, 7, 8], [0, 1, 2, 3, 4, 5, 6, 7, 8, 9], [0, 1, 2, 3, 4, 5, 6, 7, 8, 9], [0, 1, 2, 3, 4, 5, 6, 7, 8, 9, 10, 11], [0, 1, 2, 3, 4, 5, 6, 7, 8, 9, 10, 11, 12], [0, 1, 2, 3, 4, 5, 6, 7, 8, 9, 10, 11, 12, 13], [0, 1, 2, 3, 4, 5, 6, 7, 8, 9, 10, 11, 12, 13, 14], [0, 1, 2, 3, 4, 5, 6, 7, 8, 9, 10, 11, 12, 13, 14, 15], [0, 1, 2, 3, 4, 5, 6, 7, 8, 9, 10, 11, 12, 13, 14], [0, 1, 2, 3, 4, 5, 6, 7, 8, 9, 10, 11, 12, 13, 14, 15, 16, 17], [0, 1, 2, 3, 4, 5, 6, 7, 8, 9, 10, 11, 12, 13, 14, 15, 16, 17, 18], [0, 1, 2, 3, 4, 5, 6, 7, 8, 9, 10, 11, 12, 13, 14, 15, 16, 17, 18, 19], [0, 1, 2, 3, 4, 5, 6, 7, 8, 9, 10, 11, 12, 13, 14, 15, 16, 17, 18, 19, 20]] [0, 1, 10, 15, 16, 17, 18] [] (by kernel_rfl) (by kernel_rfl) rfl ?_
  show DK _ [0, 1, 2, 3, 4, 5, 6, 7, 8, 9, 10, 11, 12, 13, 14, 15, 16, 17, 18, 19, 20, 21] _ _ _
  refine .q rfl (op_loadRow Tryd.underlying22 rfl sz22 rfl rfl rfl (by simp only [AV.len, length_bsN] <;> first | assumption | omega)) trivial ?_
  refine .q rfl (op_loadRow Tryd.underlying22 rfl sz22 rfl rfl rfl (by simp only [AV.len, length_bsN] <;> first | assumption | omega)) trivial ?_
  refine .q rfl (op_eqRow8 (n := 32) (by kernel_rfl) Tryd.underlying22 Tryd.underlying5 inf5.sz rfl rfl (by simp only [length_bsN] <;> first | assumption | omega) (by simp only [length_bsN] <;> first | assumption | omega)) trivial ?_
  refine .q rfl (op_move rfl) trivial ?_
  refine .know (b' := true) (by rw [w6_same]; simp) ?_
  refine .q rfl (op_move rfl) ⟨_, rfl, rfl⟩ ?_
  refine .q rfl (op_pick_true rfl rfl rfl) trivial ?_
  refine .q rfl (op_move rfl) trivial ?_
  refine .know (b' := true) (by rw [decide_eq_false w6_ne]; rfl) ?_
  refine .q rfl (op_move rfl) ⟨_, rfl, rfl⟩ ?_
  refine .q rfl (op_pick_true rfl rfl rfl) trivial ?_
  refine .q rfl (op_move rfl) trivial ?_
  refine .know (b' := true) (by rw [← w6_same, decide_eq_false w6_ne]; rfl) ?_
  refine .q rfl (op_loadRow Tryd.underlying22 rfl sz22 rfl rfl rfl (by simp only [AV.len, length_bsN] <;> first | assumption | omega)) ⟨_, rfl, rfl⟩ ?_
  refine .q rfl (op_buildArr (us := []) Tryd.underlying22 inf5.sz zero22 rel_zero22 rfl (by decide) trivial rfl) ⟨_, rfl, rfl⟩ ?_
  refine .q rfl (op_neqRow8 (n := 32) (by kernel_rfl) Tryd.underlying22 Tryd.underlying5 inf5.sz rfl rfl (by simp only [length_bsN] <;> first | assumption | omega) (by simp only [List.length_replicate] <;> first | assumption | omega)) ⟨_, rfl, rfl⟩ ?_
  refine .q rfl (op_pick_true rfl rfl rfl) trivial ?_
  refine .q rfl (op_move rfl) trivial ?_
  refine .know (b' := true) (by rw [bs_ne _ w6_lt, decide_eq_false w6_ne]; rfl) ?_
  refine .q rfl (op_loadRow Tryd.underlying22 rfl sz22 rfl rfl rfl (by simp only [AV.len, length_ka6] <;> first | assumption | omega)) ⟨_, rfl, rfl⟩ ?_
  refine .q rfl (op_call (U := []) [] [] (cbase_ev e ka6 rfl) Tryd.func51 (by kernel_rfl) rfl rfl rfl (⟨⟨_, rfl, rfl, rfl⟩, trivial⟩) (⟨⟨_, _, rfl, rfl, rfl, rfl, id, rfl⟩, trivial⟩) (trivial) (⟨(fun h => by cases h), trivial⟩) rfl) ⟨_, rfl, rfl⟩ ?_
  refine .as (.aggB (bsN (tmV (usL ka6) 9) 32)) rfl ?_
  refine .q rfl (op_loadRow Tryd.underlying22 rfl sz22 rfl rfl rfl (by simp only [AV.len, length_kb6] <;> first | assumption | omega)) ⟨_, rfl, rfl⟩ ?_
  refine .q rfl (op_call (U := []) [] [] (cbase_ev e kb6 rfl) Tryd.func51 (by kernel_rfl) rfl rfl rfl (⟨⟨_, rfl, rfl, rfl⟩, trivial⟩) (⟨⟨_, _, rfl, rfl, rfl, rfl, id, rfl⟩, trivial⟩) (trivial) (⟨(fun h => by cases h), trivial⟩) rfl) ⟨_, rfl, rfl⟩ ?_
  refine .as (.aggB (bsN (tmV (usL kb6) 9) 32)) rfl ?_
  refine .q rfl (op_neqRow8 (n := 32) (by kernel_rfl) Tryd.underlying22 Tryd.underlying5 inf5.sz rfl rfl (by simp only [length_bsN] <;> first | assumption | omega) (by simp only [length_bsN] <;> first | assumption | omega)) ⟨_, rfl, rfl⟩ ?_
  refine .q rfl (op_pick_true rfl rfl rfl) trivial ?_
  refine .q rfl (op_assign rfl) trivial ?_
  refine .nil ?_
  show Ev _ _ _ _ _
  refine .ret ?_
  show RetOk _ _ _ _ _ _ _
  exact ret1v rfl (.inl rfl) rfl (congrArg AV.bool bases_ne) trivial
end Go.Proofs.YtjhpelajhkhlcaaDoor
namespace Go.Proofs.YtjhpelajhkhlcaaDoor
open Go.RowKit
theorem lt486 : 486662 < fp := by decide
theorem lt4 : 4 < fp := by decide
set_option maxHeartbeats 2000000 in
set_option maxRecDepth 100000 in
theorem twice06 (x z : Nat) (hx : x < fp) (hz : z < fp) : Meets Tryd.prog 99 [.sl 500 0 (dl x) 1, .sl 501 0 (dl z) 1] [(500, some ⟨.aggI (dg x), 3, false⟩), (501, some ⟨.aggI (dg z), 3, false⟩)] (.tup [.sl 1000 0 (dl (dblX x z)) 1, .sl 1001 0 (dl (dblZ x z)) 1]) [(1000, some ⟨.aggI (dg (dblX x z)), 3, true⟩), (1001, some ⟨.aggI (dg (dblZ x z)), 3, true⟩)] := by
  refine meets_of_ev (nt := 38) Tryd.func99 rfl rfl (Nat.le_of_ble_eq_true rfl) ?_
  refine .seq ?_
  refine .region ?_
  refine .q (op_assign rfl) trivial rfl ?_
  refine .q (op_assign rfl) trivial rfl ?_
  refine .nil ?_
  show Ev _ _ _ _ _
  refine .seq ?_
  refine .region ?_
  refine .q (op_move rfl) trivial rfl ?_
  refine .q (op_move rfl) trivial rfl ?_
  refine .a (op_call (U := [(1000, some ⟨.aggI (dg ((x * x % fp))), 3, true⟩)]) [(500, 500)] [(1000, 1000)] (mulsq05 (x) (by first | assumption | exact Nat.mod_lt _ fp_pos' | exact fmod_lt _ | exact ofV_lt _ | exact fp_pos' | exact pw_lt _ _ _ | decide)) Tryd.func36 (by kernel_rfl) rfl rfl rfl (⟨⟨_, rfl, rfl, rfl⟩, ⟨_, rfl, rfl, rfl⟩, trivial⟩) (⟨⟨_, _, rfl, rfl, rfl, rfl, (fun h => by cases h), rfl⟩, trivial⟩) (⟨⟨1000, _, rfl, rfl, rfl, rfl, .inl rfl⟩, trivial⟩) (⟨(fun h => by cases h), trivial⟩) rfl) trivial rfl ?_
  refine .q (op_assign rfl) trivial rfl ?_
  refine .nil ?_
  show Ev _ _ _ _ _
  refine .seq ?_
  refine .region ?_
  refine .q (op_move rfl) trivial rfl ?_
  refine .q (op_move rfl) trivial rfl ?_
  refine .a (op_call (U := [(1008, some ⟨.aggI (dg ((z * z % fp))), 3, true⟩)]) [(500, 501)] [(1008, 1000)] (mulsq05 (z) (by first | assumption | exact Nat.mod_lt _ fp_pos' | exact fmod_lt _ | exact ofV_lt _ | exact fp_pos' | exact pw_lt _ _ _ | decide)) Tryd.func36 (by kernel_rfl) rfl rfl rfl (⟨⟨_, rfl, rfl, rfl⟩, ⟨_, rfl, rfl, rfl⟩, trivial⟩) (⟨⟨_, _, rfl, rfl, rfl, rfl, (fun h => by cases h), rfl⟩, trivial⟩) (⟨⟨1000, _, rfl, rfl, rfl, rfl, .inl rfl⟩, trivial⟩) (⟨(fun h => by cases h), trivial⟩) rfl) trivial rfl ?_
  refine .q (op_assign rfl) trivial rfl ?_
  refine .nil ?_
  show Ev _ _ _ _ _
  refine .seq ?_
  refine .region ?_
  refine .q (op_move rfl) trivial rfl ?_
  refine .q (op_move rfl) trivial rfl ?_
  refine .a (op_call (U := [(1016, some ⟨.aggI (dg ((x * z % fp))), 3, true⟩)]) [(500, 500), (501, 501)] [(1016, 1000)] (mul05 (x) (z) (by first | assumption | exact Nat.mod_lt _ fp_pos' | exact fmod_lt _ | exact ofV_lt _ | exact fp_pos' | exact pw_lt _ _ _ | decide) (by first | assumption | exact Nat.mod_lt _ fp_pos' | exact fmod_lt _ | exact ofV_lt _ | exact fp_pos' | exact pw_lt _ _ _ | decide)) Tryd.func36 (by kernel_rfl) rfl rfl rfl (⟨⟨_, rfl, rfl, rfl⟩, ⟨_, rfl, rfl, rfl⟩, trivial⟩) (⟨⟨_, _, rfl, rfl, rfl, rfl, (fun h => by cases h), rfl⟩, ⟨_, _, rfl, rfl, rfl, rfl, (fun h => by cases h), rfl⟩, trivial⟩) (⟨⟨1000, _, rfl, rfl, rfl, rfl, .inl rfl⟩, trivial⟩) (⟨(fun h => by cases h), (fun h => by cases h), trivial⟩) rfl) trivial rfl ?_
  refine .q (op_assign rfl) trivial rfl ?_
  refine .nil ?_
  show Ev _ _ _ _ _
  refine .seq ?_
  refine .region ?_
  refine .q (op_move rfl) trivial rfl ?_
  refine .q (op_move rfl) trivial rfl ?_
  refine .a (op_call (U := [(1024, some ⟨.aggI (dg ((((x * x % fp) + (fp - (z * z % fp))) % fp))), 3, true⟩)]) [(500, 1000), (501, 1008)] [(1024, 1000)] (sub05 ((x * x % fp)) ((z * z % fp)) (by first | assumption | exact Nat.mod_lt _ fp_pos' | exact fmod_lt _ | exact ofV_lt _ | exact fp_pos' | exact pw_lt _ _ _ | decide) (by first | assumption | exact Nat.mod_lt _ fp_pos' | exact fmod_lt _ | exact ofV_lt _ | exact fp_pos' | exact pw_lt _ _ _ | decide)) Tryd.func33 (by kernel_rfl) rfl rfl rfl (⟨⟨_, rfl, rfl, rfl⟩, ⟨_, rfl, rfl, rfl⟩, trivial⟩) (⟨⟨_, _, rfl, rfl, rfl, rfl, (fun h => by cases h), rfl⟩, ⟨_, _, rfl, rfl, rfl, rfl, (fun h => by cases h), rfl⟩, trivial⟩) (⟨⟨1000, _, rfl, rfl, rfl, rfl, .inl rfl⟩, trivial⟩) (⟨(fun h => by cases h), (fun h => by cases h), trivial⟩) rfl) trivial rfl ?_
  refine .q (op_assign rfl) trivial rfl ?_
  refine .nil ?_
  show Ev _ _ _ _ _
  refine .seq ?_
  refine .region ?_
  refine .q (op_move rfl) trivial rfl ?_
  refine .q (op_move rfl) trivial rfl ?_
  refine .a (op_call (U := [(1032, some ⟨.aggI (dg ((((x * x % fp) + (z * z % fp)) % fp))), 3, true⟩)]) [(500, 1000), (501, 1008)] [(1032, 1000)] (add05 ((x * x % fp)) ((z * z % fp)) (by first | assumption | exact Nat.mod_lt _ fp_pos' | exact fmod_lt _ | exact ofV_lt _ | exact fp_pos' | exact pw_lt _ _ _ | decide) (by first | assumption | exact Nat.mod_lt _ fp_pos' | exact fmod_lt _ | exact ofV_lt _ | exact fp_pos' | exact pw_lt _ _ _ | decide)) Tryd.func31 (by kernel_rfl) rfl rfl rfl (⟨⟨_, rfl, rfl, rfl⟩, ⟨_, rfl, rfl, rfl⟩, trivial⟩) (⟨⟨_, _, rfl, rfl, rfl, rfl, (fun h => by cases h), rfl⟩, ⟨_, _, rfl, rfl, rfl, rfl, (fun h => by cases h), rfl⟩, trivial⟩) (⟨⟨1000, _, rfl, rfl, rfl, rfl, .inl rfl⟩, trivial⟩) (⟨(fun h => by cases h), (fun h => by cases h), trivial⟩) rfl) trivial rfl ?_
  refine .a (op_call (U := [(1040, some ⟨.aggI (dg (486662)), 3, true⟩)]) [] [(1040, 1000)] (small_ev 486662 (by omega)) Tryd.func70 (by kernel_rfl) rfl rfl rfl (⟨⟨_, rfl, rfl, rfl⟩, trivial⟩) (trivial) (⟨⟨1000, _, rfl, rfl, rfl, rfl, .inl rfl⟩, trivial⟩) (trivial) rfl) trivial rfl ?_
  refine .q (op_move rfl) trivial rfl ?_
  refine .a (op_call (U := [(1048, some ⟨.aggI (dg ((486662 * (x * z % fp) % fp))), 3, true⟩)]) [(500, 1040), (501, 1016)] [(1048, 1000)] (mul05 (486662) ((x * z % fp)) (by first | assumption | exact Nat.mod_lt _ fp_pos' | exact fmod_lt _ | exact ofV_lt _ | exact fp_pos' | exact pw_lt _ _ _ | decide) (by first | assumption | exact Nat.mod_lt _ fp_pos' | exact fmod_lt _ | exact ofV_lt _ | exact fp_pos' | exact pw_lt _ _ _ | decide)) Tryd.func36 (by kernel_rfl) rfl rfl rfl (⟨⟨_, rfl, rfl, rfl⟩, ⟨_, rfl, rfl, rfl⟩, trivial⟩) (⟨⟨_, _, rfl, rfl, rfl, rfl, (fun h => by cases h), rfl⟩, ⟨_, _, rfl, rfl, rfl, rfl, (fun h => by cases h), rfl⟩, trivial⟩) (⟨⟨1000, _, rfl, rfl, rfl, rfl, .inl rfl⟩, trivial⟩) (⟨(fun h => by cases h), (fun h => by cases h), trivial⟩) rfl) trivial rfl ?_
  refine .a (op_call (U := [(1056, some ⟨.aggI (dg ((((((x * x % fp) + (z * z % fp)) % fp) + (486662 * (x * z % fp) % fp)) % fp))), 3, true⟩)]) [(500, 1032), (501, 1048)] [(1056, 1000)] (add05 ((((x * x % fp) + (z * z % fp)) % fp)) ((486662 * (x * z % fp) % fp)) (by first | assumption | exact Nat.mod_lt _ fp_pos' | exact fmod_lt _ | exact ofV_lt _ | exact fp_pos' | exact pw_lt _ _ _ | decide) (by first | assumption | exact Nat.mod_lt _ fp_pos' | exact fmod_lt _ | exact ofV_lt _ | exact fp_pos' | exact pw_lt _ _ _ | decide)) Tryd.func31 (by kernel_rfl) rfl rfl rfl (⟨⟨_, rfl, rfl, rfl⟩, ⟨_, rfl, rfl, rfl⟩, trivial⟩) (⟨⟨_, _, rfl, rfl, rfl, rfl, (fun h => by cases h), rfl⟩, ⟨_, _, rfl, rfl, rfl, rfl, (fun h => by cases h), rfl⟩, trivial⟩) (⟨⟨1000, _, rfl, rfl, rfl, rfl, .inl rfl⟩, trivial⟩) (⟨(fun h => by cases h), (fun h => by cases h), trivial⟩) rfl) trivial rfl ?_
  refine .q (op_assign rfl) trivial rfl ?_
  refine .nil ?_
  show Ev _ _ _ _ _
  refine .seq ?_
  refine .region ?_
  refine .q (op_move rfl) trivial rfl ?_
  refine .q (op_move rfl) trivial rfl ?_
  refine .a (op_call (U := [(1064, some ⟨.aggI (dg (((((x * x % fp) + (fp - (z * z % fp))) % fp) * (((x * x % fp) + (fp - (z * z % fp))) % fp) % fp))), 3, true⟩)]) [(500, 1024)] [(1064, 1000)] (mulsq05 ((((x * x % fp) + (fp - (z * z % fp))) % fp)) (by first | assumption | exact Nat.mod_lt _ fp_pos' | exact fmod_lt _ | exact ofV_lt _ | exact fp_pos' | exact pw_lt _ _ _ | decide)) Tryd.func36 (by kernel_rfl) rfl rfl rfl (⟨⟨_, rfl, rfl, rfl⟩, ⟨_, rfl, rfl, rfl⟩, trivial⟩) (⟨⟨_, _, rfl, rfl, rfl, rfl, (fun h => by cases h), rfl⟩, trivial⟩) (⟨⟨1000, _, rfl, rfl, rfl, rfl, .inl rfl⟩, trivial⟩) (⟨(fun h => by cases h), trivial⟩) rfl) trivial rfl ?_
  refine .a (op_call (U := [(1072, some ⟨.aggI (dg (4)), 3, true⟩)]) [] [(1072, 1000)] (small_ev 4 (by omega)) Tryd.func70 (by kernel_rfl) rfl rfl rfl (⟨⟨_, rfl, rfl, rfl⟩, trivial⟩) (trivial) (⟨⟨1000, _, rfl, rfl, rfl, rfl, .inl rfl⟩, trivial⟩) (trivial) rfl) trivial rfl ?_
  refine .q (op_move rfl) trivial rfl ?_
  refine .a (op_call (U := [(1080, some ⟨.aggI (dg ((4 * (x * z % fp) % fp))), 3, true⟩)]) [(500, 1072), (501, 1016)] [(1080, 1000)] (mul05 (4) ((x * z % fp)) (by first | assumption | exact Nat.mod_lt _ fp_pos' | exact fmod_lt _ | exact ofV_lt _ | exact fp_pos' | exact pw_lt _ _ _ | decide) (by first | assumption | exact Nat.mod_lt _ fp_pos' | exact fmod_lt _ | exact ofV_lt _ | exact fp_pos' | exact pw_lt _ _ _ | decide)) Tryd.func36 (by kernel_rfl) rfl rfl rfl (⟨⟨_, rfl, rfl, rfl⟩, ⟨_, rfl, rfl, rfl⟩, trivial⟩) (⟨⟨_, _, rfl, rfl, rfl, rfl, (fun h => by cases h), rfl⟩, ⟨_, _, rfl, rfl, rfl, rfl, (fun h => by cases h), rfl⟩, trivial⟩) (⟨⟨1000, _, rfl, rfl, rfl, rfl, .inl rfl⟩, trivial⟩) (⟨(fun h => by cases h), (fun h => by cases h), trivial⟩) rfl) trivial rfl ?_
  refine .q (op_move rfl) trivial rfl ?_
  refine .a (op_call (U := [(1088, some ⟨.aggI (dg (((4 * (x * z % fp) % fp) * (((((x * x % fp) + (z * z % fp)) % fp) + (486662 * (x * z % fp) % fp)) % fp) % fp))), 3, true⟩)]) [(500, 1080), (501, 1056)] [(1088, 1000)] (mul05 ((4 * (x * z % fp) % fp)) ((((((x * x % fp) + (z * z % fp)) % fp) + (486662 * (x * z % fp) % fp)) % fp)) (by first | assumption | exact Nat.mod_lt _ fp_pos' | exact fmod_lt _ | exact ofV_lt _ | exact fp_pos' | exact pw_lt _ _ _ | decide) (by first | assumption | exact Nat.mod_lt _ fp_pos' | exact fmod_lt _ | exact ofV_lt _ | exact fp_pos' | exact pw_lt _ _ _ | decide)) Tryd.func36 (by kernel_rfl) rfl rfl rfl (⟨⟨_, rfl, rfl, rfl⟩, ⟨_, rfl, rfl, rfl⟩, trivial⟩) (⟨⟨_, _, rfl, rfl, rfl, rfl, (fun h => by cases h), rfl⟩, ⟨_, _, rfl, rfl, rfl, rfl, (fun h => by cases h), rfl⟩, trivial⟩) (⟨⟨1000, _, rfl, rfl, rfl, rfl, .inl rfl⟩, trivial⟩) (⟨(fun h => by cases h), (fun h => by cases h), trivial⟩) rfl) trivial rfl ?_
  refine .q (op_assign rfl) trivial rfl ?_
  refine .q (op_assign rfl) trivial rfl ?_
  refine .nil ?_
  show Ev _ _ _ _ _
  refine Ev.weak (st2 := ⟨[(4, .sl 1000 0 (dl (dblX x z)) 1), (5, .sl 1001 0 (dl (dblZ x z)) 1)], [(1000, some ⟨.aggI (dg (dblX x z)), 3, true⟩), (1001, some ⟨.aggI (dg (dblZ x z)), 3, true⟩)], 1008⟩) (StLe.mk [(1000, 1064), (1001, 1088)] rfl rfl ⟨⟨_, rfl, by (show AV.sl 1000 0 (dl (((((x * x % fp) + (fp - (z * z % fp))) % fp) * (((x * x % fp) + (fp - (z * z % fp))) % fp) % fp))) 1 = _; rfl), rfl⟩, ⟨_, rfl, by (show AV.sl 1001 0 (dl (((4 * (x * z % fp) % fp) * (((((x * x % fp) + (z * z % fp)) % fp) + (486662 * (x * z % fp) % fp)) % fp) % fp))) 1 = _; rw [dblZ_ref x z]), rfl⟩, trivial⟩ ⟨⟨_, _, rfl, rfl, by (show AV.aggI (dg (((((x * x % fp) + (fp - (z * z % fp))) % fp) * (((x * x % fp) + (fp - (z * z % fp))) % fp) % fp))) = _; rfl), rfl, id, rfl⟩, ⟨_, _, rfl, rfl, by (show AV.aggI (dg (((4 * (x * z % fp) % fp) * (((((x * x % fp) + (z * z % fp)) % fp) + (486662 * (x * z % fp) % fp)) % fp) % fp))) = _; rw [dblZ_ref x z]), rfl, id, rfl⟩, trivial⟩) ?_
  refine .ret ?_
  show RetOk _ _ _ _ _ _ _
  exact ret2v rfl (.inl rfl) rfl rfl rfl rfl ⟨rfl, rfl, trivial⟩
set_option maxHeartbeats 2000000 in
set_option maxRecDepth 100000 in
theorem sum06 (x x1 z1 x2 z2 : Nat) (h0 : x < fp) (h1 : x1 < fp) (h2 : z1 < fp) (h3 : x2 < fp) (h4 : z2 < fp) : Meets Tryd.prog 98 [.sl 500 0 (dl x) 1, .sl 501 0 (dl x1) 1, .sl 502 0 (dl z1) 1, .sl 503 0 (dl x2) 1, .sl 504 0 (dl z2) 1] [(500, some ⟨.aggI (dg x), 3, false⟩), (501, some ⟨.aggI (dg x1), 3, false⟩), (502, some ⟨.aggI (dg z1), 3, false⟩), (503, some ⟨.aggI (dg x2), 3, false⟩), (504, some ⟨.aggI (dg z2), 3, false⟩)] (.tup [.sl 1000 0 (dl (csX x1 z1 x2 z2)) 1, .sl 1001 0 (dl (csZ x x1 z1 x2 z2)) 1]) [(1000, some ⟨.aggI (dg (csX x1 z1 x2 z2)), 3, true⟩), (1001, some ⟨.aggI (dg (csZ x x1 z1 x2 z2)), 3, true⟩)] := by
  refine meets_of_ev (nt := 36) Tryd.func98 rfl rfl (Nat.le_of_ble_eq_true rfl) ?_
  refine .seq ?_
  refine .region ?_
  refine .q (op_assign rfl) trivial rfl ?_
  refine .q (op_assign rfl) trivial rfl ?_
  refine .nil ?_
  show Ev _ _ _ _ _
  refine .seq ?_
  refine .region ?_
  refine .q (op_move rfl) trivial rfl ?_
  refine .q (op_move rfl) trivial rfl ?_
  refine .a (op_call (U := [(1000, some ⟨.aggI (dg ((x1 * x2 % fp))), 3, true⟩)]) [(500, 501), (501, 503)] [(1000, 1000)] (mul05 (x1) (x2) (by first | assumption | exact Nat.mod_lt _ fp_pos' | exact fmod_lt _ | exact ofV_lt _ | exact fp_pos' | exact pw_lt _ _ _ | decide) (by first | assumption | exact Nat.mod_lt _ fp_pos' | exact fmod_lt _ | exact ofV_lt _ | exact fp_pos' | exact pw_lt _ _ _ | decide)) Tryd.func36 (by kernel_rfl) rfl rfl rfl (⟨⟨_, rfl, rfl, rfl⟩, ⟨_, rfl, rfl, rfl⟩, trivial⟩) (⟨⟨_, _, rfl, rfl, rfl, rfl, (fun h => by cases h), rfl⟩, ⟨_, _, rfl, rfl, rfl, rfl, (fun h => by cases h), rfl⟩, trivial⟩) (⟨⟨1000, _, rfl, rfl, rfl, rfl, .inl rfl⟩, trivial⟩) (⟨(fun h => by cases h), (fun h => by cases h), trivial⟩) rfl) trivial rfl ?_
  refine .q (op_move rfl) trivial rfl ?_
  refine .q (op_move rfl) trivial rfl ?_
  refine .a (op_call (U := [(1008, some ⟨.aggI (dg ((z1 * z2 % fp))), 3, true⟩)]) [(500, 502), (501, 504)] [(1008, 1000)] (mul05 (z1) (z2) (by first | assumption | exact Nat.mod_lt _ fp_pos' | exact fmod_lt _ | exact ofV_lt _ | exact fp_pos' | exact pw_lt _ _ _ | decide) (by first | assumption | exact Nat.mod_lt _ fp_pos' | exact fmod_lt _ | exact ofV_lt _ | exact fp_pos' | exact pw_lt _ _ _ | decide)) Tryd.func36 (by kernel_rfl) rfl rfl rfl (⟨⟨_, rfl, rfl, rfl⟩, ⟨_, rfl, rfl, rfl⟩, trivial⟩) (⟨⟨_, _, rfl, rfl, rfl, rfl, (fun h => by cases h), rfl⟩, ⟨_, _, rfl, rfl, rfl, rfl, (fun h => by cases h), rfl⟩, trivial⟩) (⟨⟨1000, _, rfl, rfl, rfl, rfl, .inl rfl⟩, trivial⟩) (⟨(fun h => by cases h), (fun h => by cases h), trivial⟩) rfl) trivial rfl ?_
  refine .a (op_call (U := [(1016, some ⟨.aggI (dg ((((x1 * x2 % fp) + (fp - (z1 * z2 % fp))) % fp))), 3, true⟩)]) [(500, 1000), (501, 1008)] [(1016, 1000)] (sub05 ((x1 * x2 % fp)) ((z1 * z2 % fp)) (by first | assumption | exact Nat.mod_lt _ fp_pos' | exact fmod_lt _ | exact ofV_lt _ | exact fp_pos' | exact pw_lt _ _ _ | decide) (by first | assumption | exact Nat.mod_lt _ fp_pos' | exact fmod_lt _ | exact ofV_lt _ | exact fp_pos' | exact pw_lt _ _ _ | decide)) Tryd.func33 (by kernel_rfl) rfl rfl rfl (⟨⟨_, rfl, rfl, rfl⟩, ⟨_, rfl, rfl, rfl⟩, trivial⟩) (⟨⟨_, _, rfl, rfl, rfl, rfl, (fun h => by cases h), rfl⟩, ⟨_, _, rfl, rfl, rfl, rfl, (fun h => by cases h), rfl⟩, trivial⟩) (⟨⟨1000, _, rfl, rfl, rfl, rfl, .inl rfl⟩, trivial⟩) (⟨(fun h => by cases h), (fun h => by cases h), trivial⟩) rfl) trivial rfl ?_
  refine .q (op_assign rfl) trivial rfl ?_
  refine .nil ?_
  show Ev _ _ _ _ _
  refine .seq ?_
  refine .region ?_
  refine .q (op_move rfl) trivial rfl ?_
  refine .q (op_move rfl) trivial rfl ?_
  refine .a (op_call (U := [(1024, some ⟨.aggI (dg ((x1 * z2 % fp))), 3, true⟩)]) [(500, 501), (501, 504)] [(1024, 1000)] (mul05 (x1) (z2) (by first | assumption | exact Nat.mod_lt _ fp_pos' | exact fmod_lt _ | exact ofV_lt _ | exact fp_pos' | exact pw_lt _ _ _ | decide) (by first | assumption | exact Nat.mod_lt _ fp_pos' | exact fmod_lt _ | exact ofV_lt _ | exact fp_pos' | exact pw_lt _ _ _ | decide)) Tryd.func36 (by kernel_rfl) rfl rfl rfl (⟨⟨_, rfl, rfl, rfl⟩, ⟨_, rfl, rfl, rfl⟩, trivial⟩) (⟨⟨_, _, rfl, rfl, rfl, rfl, (fun h => by cases h), rfl⟩, ⟨_, _, rfl, rfl, rfl, rfl, (fun h => by cases h), rfl⟩, trivial⟩) (⟨⟨1000, _, rfl, rfl, rfl, rfl, .inl rfl⟩, trivial⟩) (⟨(fun h => by cases h), (fun h => by cases h), trivial⟩) rfl) trivial rfl ?_
  refine .q (op_move rfl) trivial rfl ?_
  refine .q (op_move rfl) trivial rfl ?_
  refine .a (op_call (U := [(1032, some ⟨.aggI (dg ((z1 * x2 % fp))), 3, true⟩)]) [(500, 502), (501, 503)] [(1032, 1000)] (mul05 (z1) (x2) (by first | assumption | exact Nat.mod_lt _ fp_pos' | exact fmod_lt _ | exact ofV_lt _ | exact fp_pos' | exact pw_lt _ _ _ | decide) (by first | assumption | exact Nat.mod_lt _ fp_pos' | exact fmod_lt _ | exact ofV_lt _ | exact fp_pos' | exact pw_lt _ _ _ | decide)) Tryd.func36 (by kernel_rfl) rfl rfl rfl (⟨⟨_, rfl, rfl, rfl⟩, ⟨_, rfl, rfl, rfl⟩, trivial⟩) (⟨⟨_, _, rfl, rfl, rfl, rfl, (fun h => by cases h), rfl⟩, ⟨_, _, rfl, rfl, rfl, rfl, (fun h => by cases h), rfl⟩, trivial⟩) (⟨⟨1000, _, rfl, rfl, rfl, rfl, .inl rfl⟩, trivial⟩) (⟨(fun h => by cases h), (fun h => by cases h), trivial⟩) rfl) trivial rfl ?_
  refine .a (op_call (U := [(1040, some ⟨.aggI (dg ((((x1 * z2 % fp) + (fp - (z1 * x2 % fp))) % fp))), 3, true⟩)]) [(500, 1024), (501, 1032)] [(1040, 1000)] (sub05 ((x1 * z2 % fp)) ((z1 * x2 % fp)) (by first | assumption | exact Nat.mod_lt _ fp_pos' | exact fmod_lt _ | exact ofV_lt _ | exact fp_pos' | exact pw_lt _ _ _ | decide) (by first | assumption | exact Nat.mod_lt _ fp_pos' | exact fmod_lt _ | exact ofV_lt _ | exact fp_pos' | exact pw_lt _ _ _ | decide)) Tryd.func33 (by kernel_rfl) rfl rfl rfl (⟨⟨_, rfl, rfl, rfl⟩, ⟨_, rfl, rfl, rfl⟩, trivial⟩) (⟨⟨_, _, rfl, rfl, rfl, rfl, (fun h => by cases h), rfl⟩, ⟨_, _, rfl, rfl, rfl, rfl, (fun h => by cases h), rfl⟩, trivial⟩) (⟨⟨1000, _, rfl, rfl, rfl, rfl, .inl rfl⟩, trivial⟩) (⟨(fun h => by cases h), (fun h => by cases h), trivial⟩) rfl) trivial rfl ?_
  refine .q (op_assign rfl) trivial rfl ?_
  refine .nil ?_
  show Ev _ _ _ _ _
  refine .seq ?_
  refine .region ?_
  refine .q (op_move rfl) trivial rfl ?_
  refine .q (op_move rfl) trivial rfl ?_
  refine .a (op_call (U := [(1048, some ⟨.aggI (dg (((((x1 * x2 % fp) + (fp - (z1 * z2 % fp))) % fp) * (((x1 * x2 % fp) + (fp - (z1 * z2 % fp))) % fp) % fp))), 3, true⟩)]) [(500, 1016)] [(1048, 1000)] (mulsq05 ((((x1 * x2 % fp) + (fp - (z1 * z2 % fp))) % fp)) (by first | assumption | exact Nat.mod_lt _ fp_pos' | exact fmod_lt _ | exact ofV_lt _ | exact fp_pos' | exact pw_lt _ _ _ | decide)) Tryd.func36 (by kernel_rfl) rfl rfl rfl (⟨⟨_, rfl, rfl, rfl⟩, ⟨_, rfl, rfl, rfl⟩, trivial⟩) (⟨⟨_, _, rfl, rfl, rfl, rfl, (fun h => by cases h), rfl⟩, trivial⟩) (⟨⟨1000, _, rfl, rfl, rfl, rfl, .inl rfl⟩, trivial⟩) (⟨(fun h => by cases h), trivial⟩) rfl) trivial rfl ?_
  refine .q (op_move rfl) trivial rfl ?_
  refine .q (op_move rfl) trivial rfl ?_
  refine .q (op_move rfl) trivial rfl ?_
  refine .a (op_call (U := [(1056, some ⟨.aggI (dg (((((x1 * z2 % fp) + (fp - (z1 * x2 % fp))) % fp) * (((x1 * z2 % fp) + (fp - (z1 * x2 % fp))) % fp) % fp))), 3, true⟩)]) [(500, 1040)] [(1056, 1000)] (mulsq05 ((((x1 * z2 % fp) + (fp - (z1 * x2 % fp))) % fp)) (by first | assumption | exact Nat.mod_lt _ fp_pos' | exact fmod_lt _ | exact ofV_lt _ | exact fp_pos' | exact pw_lt _ _ _ | decide)) Tryd.func36 (by kernel_rfl) rfl rfl rfl (⟨⟨_, rfl, rfl, rfl⟩, ⟨_, rfl, rfl, rfl⟩, trivial⟩) (⟨⟨_, _, rfl, rfl, rfl, rfl, (fun h => by cases h), rfl⟩, trivial⟩) (⟨⟨1000, _, rfl, rfl, rfl, rfl, .inl rfl⟩, trivial⟩) (⟨(fun h => by cases h), trivial⟩) rfl) trivial rfl ?_
  refine .a (op_call (U := [(1064, some ⟨.aggI (dg ((x * ((((x1 * z2 % fp) + (fp - (z1 * x2 % fp))) % fp) * (((x1 * z2 % fp) + (fp - (z1 * x2 % fp))) % fp) % fp) % fp))), 3, true⟩)]) [(500, 500), (501, 1056)] [(1064, 1000)] (mul05 (x) (((((x1 * z2 % fp) + (fp - (z1 * x2 % fp))) % fp) * (((x1 * z2 % fp) + (fp - (z1 * x2 % fp))) % fp) % fp)) (by first | assumption | exact Nat.mod_lt _ fp_pos' | exact fmod_lt _ | exact ofV_lt _ | exact fp_pos' | exact pw_lt _ _ _ | decide) (by first | assumption | exact Nat.mod_lt _ fp_pos' | exact fmod_lt _ | exact ofV_lt _ | exact fp_pos' | exact pw_lt _ _ _ | decide)) Tryd.func36 (by kernel_rfl) rfl rfl rfl (⟨⟨_, rfl, rfl, rfl⟩, ⟨_, rfl, rfl, rfl⟩, trivial⟩) (⟨⟨_, _, rfl, rfl, rfl, rfl, (fun h => by cases h), rfl⟩, ⟨_, _, rfl, rfl, rfl, rfl, (fun h => by cases h), rfl⟩, trivial⟩) (⟨⟨1000, _, rfl, rfl, rfl, rfl, .inl rfl⟩, trivial⟩) (⟨(fun h => by cases h), (fun h => by cases h), trivial⟩) rfl) trivial rfl ?_
  refine .q (op_assign rfl) trivial rfl ?_
  refine .q (op_assign rfl) trivial rfl ?_
  refine .nil ?_
  show Ev _ _ _ _ _
  refine Ev.weak (st2 := ⟨[(10, .sl 1000 0 (dl (csX x1 z1 x2 z2)) 1), (11, .sl 1001 0 (dl (csZ x x1 z1 x2 z2)) 1)], [(1000, some ⟨.aggI (dg (csX x1 z1 x2 z2)), 3, true⟩), (1001, some ⟨.aggI (dg (csZ x x1 z1 x2 z2)), 3, true⟩)], 1008⟩) (StLe.mk [(1000, 1048), (1001, 1064)] rfl rfl ⟨⟨_, rfl, by (show AV.sl 1000 0 (dl (((((x1 * x2 % fp) + (fp - (z1 * z2 % fp))) % fp) * (((x1 * x2 % fp) + (fp - (z1 * z2 % fp))) % fp) % fp))) 1 = _; rfl), rfl⟩, ⟨_, rfl, by (show AV.sl 1001 0 (dl ((x * ((((x1 * z2 % fp) + (fp - (z1 * x2 % fp))) % fp) * (((x1 * z2 % fp) + (fp - (z1 * x2 % fp))) % fp) % fp) % fp))) 1 = _; rfl), rfl⟩, trivial⟩ ⟨⟨_, _, rfl, rfl, by (show AV.aggI (dg (((((x1 * x2 % fp) + (fp - (z1 * z2 % fp))) % fp) * (((x1 * x2 % fp) + (fp - (z1 * z2 % fp))) % fp) % fp))) = _; rfl), rfl, id, rfl⟩, ⟨_, _, rfl, rfl, by (show AV.aggI (dg ((x * ((((x1 * z2 % fp) + (fp - (z1 * x2 % fp))) % fp) * (((x1 * z2 % fp) + (fp - (z1 * x2 % fp))) % fp) % fp) % fp))) = _; rfl), rfl, id, rfl⟩, trivial⟩) ?_
  refine .ret ?_
  show RetOk _ _ _ _ _ _ _
  exact ret2v rfl (.inl rfl) rfl rfl rfl rfl ⟨rfl, rfl, trivial⟩
set_option maxHeartbeats 2000000 in
set_option maxRecDepth 100000 in
theorem sum06x (x x1 z1 z2 : Nat) (h0 : x < fp) (h1 : x1 < fp) (h2 : z1 < fp) (h4 : z2 < fp) : Meets Tryd.prog 98 [.sl 500 0 (dl x) 1, .sl 501 0 (dl x1) 1, .sl 502 0 (dl z1) 1, .sl 500 0 (dl x) 1, .sl 504 0 (dl z2) 1] [(500, some ⟨.aggI (dg x), 3, false⟩), (501, some ⟨.aggI (dg x1), 3, false⟩), (502, some ⟨.aggI (dg z1), 3, false⟩), (504, some ⟨.aggI (dg z2), 3, false⟩)] (.tup [.sl 1000 0 (dl (csX x1 z1 x z2)) 1, .sl 1001 0 (dl (csZ x x1 z1 x z2)) 1]) [(1000, some ⟨.aggI (dg (csX x1 z1 x z2)), 3, true⟩), (1001, some ⟨.aggI (dg (csZ x x1 z1 x z2)), 3, true⟩)] := by
  refine meets_of_ev (nt := 36) Tryd.func98 rfl rfl (Nat.le_of_ble_eq_true rfl) ?_
  refine .seq ?_
  refine .region ?_
  refine .q (op_assign rfl) trivial rfl ?_
  refine .q (op_assign rfl) trivial rfl ?_
  refine .nil ?_
  show Ev _ _ _ _ _
  refine .seq ?_
  refine .region ?_
  refine .q (op_move rfl) trivial rfl ?_
  refine .q (op_move rfl) trivial rfl ?_
  refine .a (op_call (U := [(1000, some ⟨.aggI (dg ((x1 * x % fp))), 3, true⟩)]) [(500, 501), (501, 500)] [(1000, 1000)] (mul05 (x1) (x) (by first | assumption | exact Nat.mod_lt _ fp_pos' | exact fmod_lt _ | exact ofV_lt _ | exact fp_pos' | exact pw_lt _ _ _ | decide) (by first | assumption | exact Nat.mod_lt _ fp_pos' | exact fmod_lt _ | exact ofV_lt _ | exact fp_pos' | exact pw_lt _ _ _ | decide)) Tryd.func36 (by kernel_rfl) rfl rfl rfl (⟨⟨_, rfl, rfl, rfl⟩, ⟨_, rfl, rfl, rfl⟩, trivial⟩) (⟨⟨_, _, rfl, rfl, rfl, rfl, (fun h => by cases h), rfl⟩, ⟨_, _, rfl, rfl, rfl, rfl, (fun h => by cases h), rfl⟩, trivial⟩) (⟨⟨1000, _, rfl, rfl, rfl, rfl, .inl rfl⟩, trivial⟩) (⟨(fun h => by cases h), (fun h => by cases h), trivial⟩) rfl) trivial rfl ?_
  refine .q (op_move rfl) trivial rfl ?_
  refine .q (op_move rfl) trivial rfl ?_
  refine .a (op_call (U := [(1008, some ⟨.aggI (dg ((z1 * z2 % fp))), 3, true⟩)]) [(500, 502), (501, 504)] [(1008, 1000)] (mul05 (z1) (z2) (by first | assumption | exact Nat.mod_lt _ fp_pos' | exact fmod_lt _ | exact ofV_lt _ | exact fp_pos' | exact pw_lt _ _ _ | decide) (by first | assumption | exact Nat.mod_lt _ fp_pos' | exact fmod_lt _ | exact ofV_lt _ | exact fp_pos' | exact pw_lt _ _ _ | decide)) Tryd.func36 (by kernel_rfl) rfl rfl rfl (⟨⟨_, rfl, rfl, rfl⟩, ⟨_, rfl, rfl, rfl⟩, trivial⟩) (⟨⟨_, _, rfl, rfl, rfl, rfl, (fun h => by cases h), rfl⟩, ⟨_, _, rfl, rfl, rfl, rfl, (fun h => by cases h), rfl⟩, trivial⟩) (⟨⟨1000, _, rfl, rfl, rfl, rfl, .inl rfl⟩, trivial⟩) (⟨(fun h => by cases h), (fun h => by cases h), trivial⟩) rfl) trivial rfl ?_
  refine .a (op_call (U := [(1016, some ⟨.aggI (dg ((((x1 * x % fp) + (fp - (z1 * z2 % fp))) % fp))), 3, true⟩)]) [(500, 1000), (501, 1008)] [(1016, 1000)] (sub05 ((x1 * x % fp)) ((z1 * z2 % fp)) (by first | assumption | exact Nat.mod_lt _ fp_pos' | exact fmod_lt _ | exact ofV_lt _ | exact fp_pos' | exact pw_lt _ _ _ | decide) (by first | assumption | exact Nat.mod_lt _ fp_pos' | exact fmod_lt _ | exact ofV_lt _ | exact fp_pos' | exact pw_lt _ _ _ | decide)) Tryd.func33 (by kernel_rfl) rfl rfl rfl (⟨⟨_, rfl, rfl, rfl⟩, ⟨_, rfl, rfl, rfl⟩, trivial⟩) (⟨⟨_, _, rfl, rfl, rfl, rfl, (fun h => by cases h), rfl⟩, ⟨_, _, rfl, rfl, rfl, rfl, (fun h => by cases h), rfl⟩, trivial⟩) (⟨⟨1000, _, rfl, rfl, rfl, rfl, .inl rfl⟩, trivial⟩) (⟨(fun h => by cases h), (fun h => by cases h), trivial⟩) rfl) trivial rfl ?_
  refine .q (op_assign rfl) trivial rfl ?_
  refine .nil ?_
  show Ev _ _ _ _ _
  refine .seq ?_
  refine .region ?_
  refine .q (op_move rfl) trivial rfl ?_
  refine .q (op_move rfl) trivial rfl ?_
  refine .a (op_call (U := [(1024, some ⟨.aggI (dg ((x1 * z2 % fp))), 3, true⟩)]) [(500, 501), (501, 504)] [(1024, 1000)] (mul05 (x1) (z2) (by first | assumption | exact Nat.mod_lt _ fp_pos' | exact fmod_lt _ | exact ofV_lt _ | exact fp_pos' | exact pw_lt _ _ _ | decide) (by first | assumption | exact Nat.mod_lt _ fp_pos' | exact fmod_lt _ | exact ofV_lt _ | exact fp_pos' | exact pw_lt _ _ _ | decide)) Tryd.func36 (by kernel_rfl) rfl rfl rfl (⟨⟨_, rfl, rfl, rfl⟩, ⟨_, rfl, rfl, rfl⟩, trivial⟩) (⟨⟨_, _, rfl, rfl, rfl, rfl, (fun h => by cases h), rfl⟩, ⟨_, _, rfl, rfl, rfl, rfl, (fun h => by cases h), rfl⟩, trivial⟩) (⟨⟨1000, _, rfl, rfl, rfl, rfl, .inl rfl⟩, trivial⟩) (⟨(fun h => by cases h), (fun h => by cases h), trivial⟩) rfl) trivial rfl ?_
  refine .q (op_move rfl) trivial rfl ?_
  refine .q (op_move rfl) trivial rfl ?_
  refine .a (op_call (U := [(1032, some ⟨.aggI (dg ((z1 * x % fp))), 3, true⟩)]) [(500, 502), (501, 500)] [(1032, 1000)] (mul05 (z1) (x) (by first | assumption | exact Nat.mod_lt _ fp_pos' | exact fmod_lt _ | exact ofV_lt _ | exact fp_pos' | exact pw_lt _ _ _ | decide) (by first | assumption | exact Nat.mod_lt _ fp_pos' | exact fmod_lt _ | exact ofV_lt _ | exact fp_pos' | exact pw_lt _ _ _ | decide)) Tryd.func36 (by kernel_rfl) rfl rfl rfl (⟨⟨_, rfl, rfl, rfl⟩, ⟨_, rfl, rfl, rfl⟩, trivial⟩) (⟨⟨_, _, rfl, rfl, rfl, rfl, (fun h => by cases h), rfl⟩, ⟨_, _, rfl, rfl, rfl, rfl, (fun h => by cases h), rfl⟩, trivial⟩) (⟨⟨1000, _, rfl, rfl, rfl, rfl, .inl rfl⟩, trivial⟩) (⟨(fun h => by cases h), (fun h => by cases h), trivial⟩) rfl) trivial rfl ?_
  refine .a (op_call (U := [(1040, some ⟨.aggI (dg ((((x1 * z2 % fp) + (fp - (z1 * x % fp))) % fp))), 3, true⟩)]) [(500, 1024), (501, 1032)] [(1040, 1000)] (sub05 ((x1 * z2 % fp)) ((z1 * x % fp)) (by first | assumption | exact Nat.mod_lt _ fp_pos' | exact fmod_lt _ | exact ofV_lt _ | exact fp_pos' | exact pw_lt _ _ _ | decide) (by first | assumption | exact Nat.mod_lt _ fp_pos' | exact fmod_lt _ | exact ofV_lt _ | exact fp_pos' | exact pw_lt _ _ _ | decide)) Tryd.func33 (by kernel_rfl) rfl rfl rfl (⟨⟨_, rfl, rfl, rfl⟩, ⟨_, rfl, rfl, rfl⟩, trivial⟩) (⟨⟨_, _, rfl, rfl, rfl, rfl, (fun h => by cases h), rfl⟩, ⟨_, _, rfl, rfl, rfl, rfl, (fun h => by cases h), rfl⟩, trivial⟩) (⟨⟨1000, _, rfl, rfl, rfl, rfl, .inl rfl⟩, trivial⟩) (⟨(fun h => by cases h), (fun h => by cases h), trivial⟩) rfl) trivial rfl ?_
  refine .q (op_assign rfl) trivial rfl ?_
  refine .nil ?_
  show Ev _ _ _ _ _
  refine .seq ?_
  refine .region ?_
  refine .q (op_move rfl) trivial rfl ?_
  refine .q (op_move rfl) trivial rfl ?_
  refine .a (op_call (U := [(1048, some ⟨.aggI (dg (((((x1 * x % fp) + (fp - (z1 * z2 % fp))) % fp) * (((x1 * x % fp) + (fp - (z1 * z2 % fp))) % fp) % fp))), 3, true⟩)]) [(500, 1016)] [(1048, 1000)] (mulsq05 ((((x1 * x % fp) + (fp - (z1 * z2 % fp))) % fp)) (by first | assumption | exact Nat.mod_lt _ fp_pos' | exact fmod_lt _ | exact ofV_lt _ | exact fp_pos' | exact pw_lt _ _ _ | decide)) Tryd.func36 (by kernel_rfl) rfl rfl rfl (⟨⟨_, rfl, rfl, rfl⟩, ⟨_, rfl, rfl, rfl⟩, trivial⟩) (⟨⟨_, _, rfl, rfl, rfl, rfl, (fun h => by cases h), rfl⟩, trivial⟩) (⟨⟨1000, _, rfl, rfl, rfl, rfl, .inl rfl⟩, trivial⟩) (⟨(fun h => by cases h), trivial⟩) rfl) trivial rfl ?_
  refine .q (op_move rfl) trivial rfl ?_
  refine .q (op_move rfl) trivial rfl ?_
  refine .q (op_move rfl) trivial rfl ?_
  refine .a (op_call (U := [(1056, some ⟨.aggI (dg (((((x1 * z2 % fp) + (fp - (z1 * x % fp))) % fp) * (((x1 * z2 % fp) + (fp - (z1 * x % fp))) % fp) % fp))), 3, true⟩)]) [(500, 1040)] [(1056, 1000)] (mulsq05 ((((x1 * z2 % fp) + (fp - (z1 * x % fp))) % fp)) (by first | assumption | exact Nat.mod_lt _ fp_pos' | exact fmod_lt _ | exact ofV_lt _ | exact fp_pos' | exact pw_lt _ _ _ | decide)) Tryd.func36 (by kernel_rfl) rfl rfl rfl (⟨⟨_, rfl, rfl, rfl⟩, ⟨_, rfl, rfl, rfl⟩, trivial⟩) (⟨⟨_, _, rfl, rfl, rfl, rfl, (fun h => by cases h), rfl⟩, trivial⟩) (⟨⟨1000, _, rfl, rfl, rfl, rfl, .inl rfl⟩, trivial⟩) (⟨(fun h => by cases h), trivial⟩) rfl) trivial rfl ?_
  refine .a (op_call (U := [(1064, some ⟨.aggI (dg ((x * ((((x1 * z2 % fp) + (fp - (z1 * x % fp))) % fp) * (((x1 * z2 % fp) + (fp - (z1 * x % fp))) % fp) % fp) % fp))), 3, true⟩)]) [(500, 500), (501, 1056)] [(1064, 1000)] (mul05 (x) (((((x1 * z2 % fp) + (fp - (z1 * x % fp))) % fp) * (((x1 * z2 % fp) + (fp - (z1 * x % fp))) % fp) % fp)) (by first | assumption | exact Nat.mod_lt _ fp_pos' | exact fmod_lt _ | exact ofV_lt _ | exact fp_pos' | exact pw_lt _ _ _ | decide) (by first | assumption | exact Nat.mod_lt _ fp_pos' | exact fmod_lt _ | exact ofV_lt _ | exact fp_pos' | exact pw_lt _ _ _ | decide)) Tryd.func36 (by kernel_rfl) rfl rfl rfl (⟨⟨_, rfl, rfl, rfl⟩, ⟨_, rfl, rfl, rfl⟩, trivial⟩) (⟨⟨_, _, rfl, rfl, rfl, rfl, (fun h => by cases h), rfl⟩, ⟨_, _, rfl, rfl, rfl, rfl, (fun h => by cases h), rfl⟩, trivial⟩) (⟨⟨1000, _, rfl, rfl, rfl, rfl, .inl rfl⟩, trivial⟩) (⟨(fun h => by cases h), (fun h => by cases h), trivial⟩) rfl) trivial rfl ?_
  refine .q (op_assign rfl) trivial rfl ?_
  refine .q (op_assign rfl) trivial rfl ?_
  refine .nil ?_
  show Ev _ _ _ _ _
  refine Ev.weak (st2 := ⟨[(10, .sl 1000 0 (dl (csX x1 z1 x z2)) 1), (11, .sl 1001 0 (dl (csZ x x1 z1 x z2)) 1)], [(1000, some ⟨.aggI (dg (csX x1 z1 x z2)), 3, true⟩), (1001, some ⟨.aggI (dg (csZ x x1 z1 x z2)), 3, true⟩)], 1008⟩) (StLe.mk [(1000, 1048), (1001, 1064)] rfl rfl ⟨⟨_, rfl, by (show AV.sl 1000 0 (dl (((((x1 * x % fp) + (fp - (z1 * z2 % fp))) % fp) * (((x1 * x % fp) + (fp - (z1 * z2 % fp))) % fp) % fp))) 1 = _; rfl), rfl⟩, ⟨_, rfl, by (show AV.sl 1001 0 (dl ((x * ((((x1 * z2 % fp) + (fp - (z1 * x % fp))) % fp) * (((x1 * z2 % fp) + (fp - (z1 * x % fp))) % fp) % fp) % fp))) 1 = _; rfl), rfl⟩, trivial⟩ ⟨⟨_, _, rfl, rfl, by (show AV.aggI (dg (((((x1 * x % fp) + (fp - (z1 * z2 % fp))) % fp) * (((x1 * x % fp) + (fp - (z1 * z2 % fp))) % fp) % fp))) = _; rfl), rfl, id, rfl⟩, ⟨_, _, rfl, rfl, by (show AV.aggI (dg ((x * ((((x1 * z2 % fp) + (fp - (z1 * x % fp))) % fp) * (((x1 * z2 % fp) + (fp - (z1 * x % fp))) % fp) % fp) % fp))) = _; rfl), rfl, id, rfl⟩, trivial⟩) ?_
  refine .ret ?_
  show RetOk _ _ _ _ _ _ _
  exact ret2v rfl (.inl rfl) rfl rfl rfl rfl ⟨rfl, rfl, trivial⟩
end Go.Proofs.YtjhpelajhkhlcaaDoor
namespace Go.Proofs.YtjhpelajhkhlcaaDoor
open Go.RowKit
theorem lad_true (K : List UInt8) (x i : Nat) (h : kb K (255 - i) = true) : lad K x (i + 1) = (csX (lad K x i).1 (lad K x i).2.1 (lad K x i).2.2.1 (lad K x i).2.2.2, csZ x (lad K x i).1 (lad K x i).2.1 (lad K x i).2.2.1 (lad K x i).2.2.2, dblX (lad K x i).2.2.1 (lad K x i).2.2.2, dblZ (lad K x i).2.2.1 (lad K x i).2.2.2) := by
  simp only [lad, lstep, h, if_true]
theorem lad_false (K : List UInt8) (x i : Nat) (h : kb K (255 - i) = false) : lad K x (i + 1) = (dblX (lad K x i).1 (lad K x i).2.1, dblZ (lad K x i).1 (lad K x i).2.1, csX (lad K x i).1 (lad K x i).2.1 (lad K x i).2.2.1 (lad K x i).2.2.2, csZ x (lad K x i).1 (lad K x i).2.1 (lad K x i).2.2.1 (lad K x i).2.2.2) := by
  simp only [lad, lstep, h, Bool.false_eq_true, if_false]
theorem lad1_true (K : List UInt8) (x : Nat) (h : kb K (255 - 0) = true) : lad K x 1 = (csX 1 0 x 1, csZ x 1 0 x 1, dblX x 1, dblZ x 1) := lad_true K x 0 h
theorem lad1_false (K : List UInt8) (x : Nat) (h : kb K (255 - 0) = false) : lad K x 1 = (dblX 1 0, dblZ 1 0, csX 1 0 x 1, csZ x 1 0 x 1) := lad_false K x 0 h
set_option maxHeartbeats 4000000 in
set_option maxRecDepth 100000 in
theorem mult06 (K Q : List UInt8) (hK : K.length = 32) (hQ : Q.length = 32) : Meets Tryd.prog 50 [.str K, .str Q] [] (.str (bsN (tmV (usR K) (ofV Q)) 32)) [] := by
  obtain ⟨L, hL⟩ : ∃ L : Nat → Nat × Nat × Nat × Nat, L = lad (usR K) (ofV Q) := ⟨_, rfl⟩
  have hB : ∀ i, (L i).1 < fp ∧ (L i).2.1 < fp ∧ (L i).2.2.1 < fp ∧ (L i).2.2.2 < fp := by rw [hL]; exact lad_lt (usR K) (ofV Q) (ofV_lt Q)
  have hT : ∀ i, kb (usR K) (255 - i) = true → L (i + 1) = (csX (L i).1 (L i).2.1 (L i).2.2.1 (L i).2.2.2, csZ (ofV Q) (L i).1 (L i).2.1 (L i).2.2.1 (L i).2.2.2, dblX (L i).2.2.1 (L i).2.2.2, dblZ (L i).2.2.1 (L i).2.2.2) := by rw [hL]; exact lad_true (usR K) (ofV Q)
  have hF : ∀ i, kb (usR K) (255 - i) = false → L (i + 1) = (dblX (L i).1 (L i).2.1, dblZ (L i).1 (L i).2.1, csX (L i).1 (L i).2.1 (L i).2.2.1 (L i).2.2.2, csZ (ofV Q) (L i).1 (L i).2.1 (L i).2.2.1 (L i).2.2.2) := by rw [hL]; exact lad_false (usR K) (ofV Q)
  have hT1 : kb (usR K) (255 - 0) = true → L 1 = (csX 1 0 (ofV Q) 1, csZ (ofV Q) 1 0 (ofV Q) 1, dblX (ofV Q) 1, dblZ (ofV Q) 1) := by rw [hL]; exact lad1_true (usR K) (ofV Q)
  have hF1 : kb (usR K) (255 - 0) = false → L 1 = (dblX 1 0, dblZ 1 0, csX 1 0 (ofV Q) 1, csZ (ofV Q) 1 0 (ofV Q) 1) := by rw [hL]; exact lad1_false (usR K) (ofV Q)
  refine meets_of_ev (nt := 80) Tryd.func50 rfl rfl (Nat.le_of_ble_eq_true rfl) ?_
  refine .seq ?_
  refine .region ?_
  refine .q (op_assign rfl) trivial rfl ?_
  refine .nil ?_
  show Ev _ _ _ _ _
  refine .seq ?_
  refine .region ?_
  refine .q (op_move rfl) trivial rfl ?_
  refine .a (op_str_bytes Tryd.underlying9 Tryd.underlying27 Tryd.underlying5 rfl (by unfold maxLen; omega)) trivial rfl ?_
  refine .as (.sl 1000 0 32 1) (by congr 1) ?_
  refine .q (op_assign rfl) trivial rfl ?_
  refine .nil ?_
  show Ev _ _ _ _ _
  refine .seq ?_
  refine .region ?_
  refine .q (op_move rfl) trivial rfl ?_
  refine .q (op_move rfl) trivial rfl ?_
  refine .q (ap_idx0 Tryd.underlying27 inf5.sz rfl rfl rfl (by decide)) trivial rfl ?_
  refine .q (op_load Tryd.underlying5 rfl rfl rfl rfl (by simp only [AV.len]; omega)) trivial rfl ?_
  refine .q (op_quo8 rfl rfl (by decide)) trivial rfl ?_
  refine .q (op_bin8 rfl rfl rfl) trivial rfl ?_
  refine .q (ap_idx0 Tryd.underlying27 inf5.sz rfl rfl rfl (by decide)) trivial rfl ?_
  refine .w (op_store inf5.sz rfl rfl rfl rfl rfl (by simp only [AV.len]; omega)) trivial rfl ?_
  refine .nil ?_
  show Ev _ _ _ _ _
  refine .seq ?_
  refine .region ?_
  refine .q (op_move rfl) trivial rfl ?_
  refine .q (op_move rfl) trivial rfl ?_
  refine .q (ap_idx0 Tryd.underlying27 inf5.sz rfl rfl rfl (by decide)) trivial rfl ?_
  refine .q (op_load Tryd.underlying5 rfl rfl rfl rfl (by simp only [AV.len, List.length_set]; omega)) trivial rfl ?_
  refine .q (op_rem8 rfl rfl (by decide)) trivial rfl ?_
  refine .q (op_bin8 rfl rfl rfl) trivial rfl ?_
  refine .q (ap_idx0 Tryd.underlying27 inf5.sz rfl rfl rfl (by decide)) trivial rfl ?_
  refine .w (op_store inf5.sz rfl rfl rfl rfl rfl (by simp only [AV.len, List.length_set]; omega)) trivial rfl ?_
  refine .asH (.aggB (usR K)) rfl ?_
  refine .nil ?_
  show Ev _ _ _ _ _
  refine .seq ?_
  refine .region ?_
  refine .q (op_move rfl) trivial rfl ?_
  refine .a (op_call (U := [(1008, some ⟨.aggI (dg ((ofV Q))), 3, true⟩)]) [] [(1008, 1000)] (of05 Q (by omega)) Tryd.func28 (by kernel_rfl) rfl rfl rfl (⟨⟨_, rfl, rfl, rfl⟩, trivial⟩) (trivial) (⟨⟨1000, _, rfl, rfl, rfl, rfl, .inl rfl⟩, trivial⟩) (trivial) rfl) trivial rfl ?_
  refine .q (op_assign rfl) trivial rfl ?_
  refine .nil ?_
  show Ev _ _ _ _ _
  refine .seq ?_
  refine .region ?_
  refine .a (op_call (U := [(1016, some ⟨.aggI (dg (1)), 3, true⟩)]) [] [(1016, 1000)] (small_ev 1 (by omega)) Tryd.func70 (by kernel_rfl) rfl rfl rfl (⟨⟨_, rfl, rfl, rfl⟩, trivial⟩) (trivial) (⟨⟨1000, _, rfl, rfl, rfl, rfl, .inl rfl⟩, trivial⟩) (trivial) rfl) trivial rfl ?_
  refine .a (op_call (U := [(1024, some ⟨.aggI (dg (0)), 3, true⟩)]) [] [(1024, 1000)] (small_ev 0 (by omega)) Tryd.func70 (by kernel_rfl) rfl rfl rfl (⟨⟨_, rfl, rfl, rfl⟩, trivial⟩) (trivial) (⟨⟨1000, _, rfl, rfl, rfl, rfl, .inl rfl⟩, trivial⟩) (trivial) rfl) trivial rfl ?_
  refine .q (op_assign rfl) trivial rfl ?_
  refine .q (op_assign rfl) trivial rfl ?_
  refine .nil ?_
  show Ev _ _ _ _ _
  refine .seq ?_
  refine .region ?_
  refine .q (op_move rfl) trivial rfl ?_
  refine .a (op_call (U := [(1032, some ⟨.aggI (dg (1)), 3, true⟩)]) [] [(1032, 1000)] (small_ev 1 (by omega)) Tryd.func70 (by kernel_rfl) rfl rfl rfl (⟨⟨_, rfl, rfl, rfl⟩, trivial⟩) (trivial) (⟨⟨1000, _, rfl, rfl, rfl, rfl, .inl rfl⟩, trivial⟩) (trivial) rfl) trivial rfl ?_
  refine .q (op_assign rfl) trivial rfl ?_
  refine .q (op_assign rfl) trivial rfl ?_
  refine .nil ?_
  show Ev _ _ _ _ _
  refine .seq ?_
  refine .seq ?_
  refine .region ?_
  refine .q (op_assign rfl) trivial rfl ?_
  refine .nil ?_
  show Ev _ _ _ _ _
  refine .block ?_
  refine Ev.loop (ι := Option { i : Nat // 1 ≤ i ∧ i ≤ 256 }) (fun q => (match q with | none => ⟨[(5, .sl 1000 0 32 1), (6, .sl 1008 0 (dl (ofV Q)) 1), (7, .sl 1016 0 (dl (1)) 1), (8, .sl 1024 0 (dl (0)) 1), (9, .sl 1008 0 (dl (ofV Q)) 1), (10, .sl 1032 0 (dl (1)) 1), (11, .i64 255)], [(1000, some ⟨.aggB (usR K), 5, true⟩), (1008, some ⟨.aggI (dg (ofV Q)), 3, true⟩), (1016, some ⟨.aggI (dg 1), 3, true⟩), (1024, some ⟨.aggI (dg 0), 3, true⟩), (1032, some ⟨.aggI (dg 1), 3, true⟩)], 1048⟩ | some i => ⟨[(5, .sl 1000 0 32 1), (6, .sl 1008 0 (dl (ofV Q)) 1), (7, .sl 1016 0 (dl ((L (i.1)).1)) 1), (8, .sl 1024 0 (dl ((L (i.1)).2.1)) 1), (9, .sl 1040 0 (dl ((L (i.1)).2.2.1)) 1), (10, .sl 1032 0 (dl ((L (i.1)).2.2.2)) 1), (11, .i64 (255 - ((i.1 : Nat) : Int)))], [(1000, some ⟨.aggB (usR K), 5, true⟩), (1008, some ⟨.aggI (dg (ofV Q)), 3, true⟩), (1016, some ⟨.aggI (dg ((L (i.1)).1)), 3, true⟩), (1024, some ⟨.aggI (dg ((L (i.1)).2.1)), 3, true⟩), (1040, some ⟨.aggI (dg ((L (i.1)).2.2.1)), 3, true⟩), (1032, some ⟨.aggI (dg ((L (i.1)).2.2.2)), 3, true⟩)], 1048⟩)) (fun q => match q with | none => 300 | some i => 256 - i.1) none (StLe.mk [(1000, 1000), (1008, 1008), (1016, 1016), (1024, 1024), (1032, 1032)] rfl rfl ⟨⟨_, rfl, by first | rfl | (simp only [AV.ren]; congr 1; omega), rfl⟩, ⟨_, rfl, by first | rfl | (simp only [AV.ren]; congr 1; omega), rfl⟩, ⟨_, rfl, by first | rfl | (simp only [AV.ren]; congr 1; omega), rfl⟩, ⟨_, rfl, by first | rfl | (simp only [AV.ren]; congr 1; omega), rfl⟩, ⟨_, rfl, by first | rfl | (simp only [AV.ren]; congr 1; omega), rfl⟩, ⟨_, rfl, by first | rfl | (simp only [AV.ren]; congr 1; omega), rfl⟩, ⟨_, rfl, by first | rfl | (simp only [AV.ren]; congr 1; omega), rfl⟩, trivial⟩ ⟨⟨_, _, rfl, rfl, rfl, rfl, id, rfl⟩, ⟨_, _, rfl, rfl, rfl, rfl, id, rfl⟩, ⟨_, _, rfl, rfl, rfl, rfl, id, rfl⟩, ⟨_, _, rfl, rfl, rfl, rfl, id, rfl⟩, ⟨_, _, rfl, rfl, rfl, rfl, id, rfl⟩, trivial⟩) ?_
  rintro (_ | ⟨i, hi1, hi2⟩)
  · try dsimp only
    refine .seq ?_
    refine .seq ?_
    refine .region ?_
    refine .q (op_move rfl) trivial rfl ?_
    refine .q (op_cmpI rfl rfl rfl) trivial rfl ?_
    refine .nil ?_
    show Ev _ _ _ _ _
    refine .cond_true rfl (by decide) ?_
    refine .skip ?_
    show Ev _ _ _ _ _
    refine .seq ?_
    refine .block ?_
    refine .seq ?_
    refine .region ?_
    refine .q (op_move rfl) trivial rfl ?_
    refine .q (op_move rfl) trivial rfl ?_
    refine .q (op_move rfl) trivial rfl ?_
    refine .q (op_move rfl) trivial rfl ?_
    refine .q (op_move rfl) trivial rfl ?_
    refine .a (op_call (U := [(1048, some ⟨.aggI (dg (csX 1 0 (ofV Q) 1)), 3, true⟩), (1049, some ⟨.aggI (dg (csZ (ofV Q) 1 0 (ofV Q) 1)), 3, true⟩)]) [(500, 1008), (501, 1016), (502, 1024), (504, 1032)] [(1048, 1000), (1049, 1001)] (sum06x (ofV Q) 1 0 1 (by first | assumption | exact hb.1 | exact hb.2.1 | exact hb.2.2.1 | exact hb.2.2.2 | exact ofV_lt _ | decide) (by first | assumption | exact hb.1 | exact hb.2.1 | exact hb.2.2.1 | exact hb.2.2.2 | exact ofV_lt _ | decide) (by first | assumption | exact hb.1 | exact hb.2.1 | exact hb.2.2.1 | exact hb.2.2.2 | exact ofV_lt _ | decide) (by first | assumption | exact hb.1 | exact hb.2.1 | exact hb.2.2.1 | exact hb.2.2.2 | exact ofV_lt _ | decide)) Tryd.func98 (by kernel_rfl) rfl rfl rfl (⟨⟨_, rfl, rfl, rfl⟩, ⟨_, rfl, rfl, rfl⟩, ⟨_, rfl, rfl, rfl⟩, ⟨_, rfl, rfl, rfl⟩, ⟨_, rfl, rfl, rfl⟩, trivial⟩) (⟨⟨_, _, rfl, rfl, rfl, rfl, (fun h => by cases h), rfl⟩, ⟨_, _, rfl, rfl, rfl, rfl, (fun h => by cases h), rfl⟩, ⟨_, _, rfl, rfl, rfl, rfl, (fun h => by cases h), rfl⟩, ⟨_, _, rfl, rfl, rfl, rfl, (fun h => by cases h), rfl⟩, trivial⟩) (⟨⟨1000, _, rfl, rfl, rfl, rfl, .inl rfl⟩, ⟨1001, _, rfl, rfl, rfl, rfl, .inl rfl⟩, trivial⟩) (⟨(fun h => by cases h), (fun h => by cases h), (fun h => by cases h), (fun h => by cases h), trivial⟩) rfl) trivial rfl ?_
    refine .q (op_move rfl) trivial rfl ?_
    refine .q (op_extract rfl rfl) trivial rfl ?_
    refine .q (op_extract rfl rfl) trivial rfl ?_
    refine .q (op_assign rfl) trivial rfl ?_
    refine .q (op_assign rfl) trivial rfl ?_
    refine .nil ?_
    show Ev _ _ _ _ _
    refine .seq ?_
    refine .region ?_
    refine .q (op_move rfl) trivial rfl ?_
    refine .q (op_move rfl) trivial rfl ?_
    refine .q (op_quoI rfl rfl ⟨by omega, ⟨by omega, by omega⟩, by omega⟩) trivial rfl ?_
    refine .q (ap_idx0 Tryd.underlying27 inf5.sz rfl rfl (i := 255 / 8) (by omega) (by omega)) trivial rfl ?_
    refine .q (op_load Tryd.underlying5 rfl rfl rfl rfl (by show 255 / 8 < (usR K).length; rw [length_usR]; omega)) trivial rfl ?_
    refine .q (op_move rfl) trivial rfl ?_
    refine .q (op_remI rfl rfl ⟨by first | omega | (simp only [AV.len]; omega) | (simp only [AV.len, List.length_set]; omega) | assumption | (simp [AV.len]; done), by first | omega | (simp only [AV.len]; omega) | (simp only [AV.len, List.length_set]; omega) | assumption | (simp [AV.len]; done)⟩) trivial rfl ?_
    refine .q (op_shr8 (n := 7) rfl rfl rfl (by decide)) trivial rfl ?_
    refine .q (op_rem8 rfl rfl (by decide)) trivial rfl ?_
    refine .q (op_bin8 rfl rfl rfl) trivial rfl ?_
    refine .as (.bool (kb (usR K) (255 - 0))) (congrArg AV.bool (bit_ref (usR K) (255 - 0))) ?_
    refine .nil ?_
    show Ev _ _ _ _ _
    refine .cond rfl (fun hc58 => ?_) (fun hc58 => ?_)
    · skip
      refine .seq ?_
      refine .region ?_
      refine .q (op_move rfl) trivial rfl ?_
      refine .q (op_move rfl) trivial rfl ?_
      refine .a (op_call (U := [(1056, some ⟨.aggI (dg (dblX (ofV Q) 1)), 3, true⟩), (1057, some ⟨.aggI (dg (dblZ (ofV Q) 1)), 3, true⟩)]) [(500, 1008), (501, 1032)] [(1056, 1000), (1057, 1001)] (twice06 (ofV Q) 1 (by first | assumption | exact hb.1 | exact hb.2.1 | exact hb.2.2.1 | exact hb.2.2.2 | exact ofV_lt _ | decide) (by first | assumption | exact hb.1 | exact hb.2.1 | exact hb.2.2.1 | exact hb.2.2.2 | exact ofV_lt _ | decide)) Tryd.func99 (by kernel_rfl) rfl rfl rfl (⟨⟨_, rfl, rfl, rfl⟩, ⟨_, rfl, rfl, rfl⟩, trivial⟩) (⟨⟨_, _, rfl, rfl, rfl, rfl, (fun h => by cases h), rfl⟩, ⟨_, _, rfl, rfl, rfl, rfl, (fun h => by cases h), rfl⟩, trivial⟩) (⟨⟨1000, _, rfl, rfl, rfl, rfl, .inl rfl⟩, ⟨1001, _, rfl, rfl, rfl, rfl, .inl rfl⟩, trivial⟩) (⟨(fun h => by cases h), (fun h => by cases h), trivial⟩) rfl) trivial rfl ?_
      refine .q (op_move rfl) trivial rfl ?_
      refine .q (op_extract rfl rfl) trivial rfl ?_
      refine .q (op_extract rfl rfl) trivial rfl ?_
      refine .q (op_assign rfl) trivial rfl ?_
      refine .q (op_assign rfl) trivial rfl ?_
      refine .nil ?_
      show Ev _ _ _ _ _
      refine .region ?_
      refine .q (op_move rfl) trivial rfl ?_
      refine .q (op_move rfl) trivial rfl ?_
      refine .q (op_assign rfl) trivial rfl ?_
      refine .q (op_assign rfl) trivial rfl ?_
      refine .nil ?_
      show Ev _ _ _ _ _
      refine .region ?_
      refine .q (op_move rfl) trivial rfl ?_
      refine .q (op_subI rfl rfl ⟨by first | omega | (simp only [AV.len]; omega) | (simp only [AV.len, List.length_set]; omega) | assumption | (simp [AV.len]; done), by first | omega | (simp only [AV.len]; omega) | (simp only [AV.len, List.length_set]; omega) | assumption | (simp [AV.len]; done)⟩) trivial rfl ?_
      refine .q (op_assign rfl) trivial rfl ?_
      refine .nil ?_
      first
        | exact ⟨some ⟨1, by omega⟩, (by show 256 - 1 < 300; decide), StLe.mk [(1000, 1000), (1008, 1008), (1016, 1048), (1024, 1049), (1040, 1056), (1032, 1057)] rfl rfl ⟨⟨_, rfl, by rfl, rfl⟩, ⟨_, rfl, by rfl, rfl⟩, ⟨_, rfl, by (show AV.sl 1016 0 (dl (csX 1 0 (ofV Q) 1)) 1 = AV.sl 1016 0 (dl ((L 1).1)) 1; rw [hT1 hc58]), rfl⟩, ⟨_, rfl, by (show AV.sl 1024 0 (dl (csZ (ofV Q) 1 0 (ofV Q) 1)) 1 = AV.sl 1024 0 (dl ((L 1).2.1)) 1; rw [hT1 hc58]), rfl⟩, ⟨_, rfl, by (show AV.sl 1040 0 (dl (dblX (ofV Q) 1)) 1 = AV.sl 1040 0 (dl ((L 1).2.2.1)) 1; rw [hT1 hc58]), rfl⟩, ⟨_, rfl, by (show AV.sl 1032 0 (dl (dblZ (ofV Q) 1)) 1 = AV.sl 1032 0 (dl ((L 1).2.2.2)) 1; rw [hT1 hc58]), rfl⟩, ⟨_, rfl, by exact congrArg AV.i64 (show (255 : Int) - 1 = 255 - ((1 : Nat) : Int) by decide), rfl⟩, trivial⟩ ⟨⟨_, _, rfl, rfl, rfl, rfl, id, rfl⟩, ⟨_, _, rfl, rfl, rfl, rfl, id, rfl⟩, ⟨_, _, rfl, rfl, by exact (congrArg (fun s : Nat × Nat × Nat × Nat => AV.aggI (dg (s.1))) (hT1 hc58)).symm, (Eq.refl (3 : Nat)), (fun _ => rfl), rfl⟩, ⟨_, _, rfl, rfl, by exact (congrArg (fun s : Nat × Nat × Nat × Nat => AV.aggI (dg (s.2.1))) (hT1 hc58)).symm, (Eq.refl (3 : Nat)), (fun _ => rfl), rfl⟩, ⟨_, _, rfl, rfl, by exact (congrArg (fun s : Nat × Nat × Nat × Nat => AV.aggI (dg (s.2.2.1))) (hT1 hc58)).symm, (Eq.refl (3 : Nat)), (fun _ => rfl), rfl⟩, ⟨_, _, rfl, rfl, by exact (congrArg (fun s : Nat × Nat × Nat × Nat => AV.aggI (dg (s.2.2.2))) (hT1 hc58)).symm, (Eq.refl (3 : Nat)), (fun _ => rfl), rfl⟩, trivial⟩⟩
        | exact ⟨some ⟨1, by omega⟩, (by show 256 - 1 < 300; decide), StLe.mk [(1000, 1000), (1008, 1008), (1016, 1056), (1024, 1057), (1040, 1048), (1032, 1049)] rfl rfl ⟨⟨_, rfl, by rfl, rfl⟩, ⟨_, rfl, by rfl, rfl⟩, ⟨_, rfl, by (show AV.sl 1016 0 (dl (dblX 1 0)) 1 = AV.sl 1016 0 (dl ((L 1).1)) 1; rw [hF1 hc58]), rfl⟩, ⟨_, rfl, by (show AV.sl 1024 0 (dl (dblZ 1 0)) 1 = AV.sl 1024 0 (dl ((L 1).2.1)) 1; rw [hF1 hc58]), rfl⟩, ⟨_, rfl, by (show AV.sl 1040 0 (dl (csX 1 0 (ofV Q) 1)) 1 = AV.sl 1040 0 (dl ((L 1).2.2.1)) 1; rw [hF1 hc58]), rfl⟩, ⟨_, rfl, by (show AV.sl 1032 0 (dl (csZ (ofV Q) 1 0 (ofV Q) 1)) 1 = AV.sl 1032 0 (dl ((L 1).2.2.2)) 1; rw [hF1 hc58]), rfl⟩, ⟨_, rfl, by exact congrArg AV.i64 (show (255 : Int) - 1 = 255 - ((1 : Nat) : Int) by decide), rfl⟩, trivial⟩ ⟨⟨_, _, rfl, rfl, rfl, rfl, id, rfl⟩, ⟨_, _, rfl, rfl, rfl, rfl, id, rfl⟩, ⟨_, _, rfl, rfl, by exact (congrArg (fun s : Nat × Nat × Nat × Nat => AV.aggI (dg (s.1))) (hF1 hc58)).symm, (Eq.refl (3 : Nat)), (fun _ => rfl), rfl⟩, ⟨_, _, rfl, rfl, by exact (congrArg (fun s : Nat × Nat × Nat × Nat => AV.aggI (dg (s.2.1))) (hF1 hc58)).symm, (Eq.refl (3 : Nat)), (fun _ => rfl), rfl⟩, ⟨_, _, rfl, rfl, by exact (congrArg (fun s : Nat × Nat × Nat × Nat => AV.aggI (dg (s.2.2.1))) (hF1 hc58)).symm, (Eq.refl (3 : Nat)), (fun _ => rfl), rfl⟩, ⟨_, _, rfl, rfl, by exact (congrArg (fun s : Nat × Nat × Nat × Nat => AV.aggI (dg (s.2.2.2))) (hF1 hc58)).symm, (Eq.refl (3 : Nat)), (fun _ => rfl), rfl⟩, trivial⟩⟩
    · skip
      refine .seq ?_
      refine .region ?_
      refine .q (op_move rfl) trivial rfl ?_
      refine .q (op_move rfl) trivial rfl ?_
      refine .a (op_call (U := [(1056, some ⟨.aggI (dg (dblX 1 0)), 3, true⟩), (1057, some ⟨.aggI (dg (dblZ 1 0)), 3, true⟩)]) [(500, 1016), (501, 1024)] [(1056, 1000), (1057, 1001)] (twice06 1 0 (by first | assumption | exact hb.1 | exact hb.2.1 | exact hb.2.2.1 | exact hb.2.2.2 | exact ofV_lt _ | decide) (by first | assumption | exact hb.1 | exact hb.2.1 | exact hb.2.2.1 | exact hb.2.2.2 | exact ofV_lt _ | decide)) Tryd.func99 (by kernel_rfl) rfl rfl rfl (⟨⟨_, rfl, rfl, rfl⟩, ⟨_, rfl, rfl, rfl⟩, trivial⟩) (⟨⟨_, _, rfl, rfl, rfl, rfl, (fun h => by cases h), rfl⟩, ⟨_, _, rfl, rfl, rfl, rfl, (fun h => by cases h), rfl⟩, trivial⟩) (⟨⟨1000, _, rfl, rfl, rfl, rfl, .inl rfl⟩, ⟨1001, _, rfl, rfl, rfl, rfl, .inl rfl⟩, trivial⟩) (⟨(fun h => by cases h), (fun h => by cases h), trivial⟩) rfl) trivial rfl ?_
      refine .q (op_move rfl) trivial rfl ?_
      refine .q (op_extract rfl rfl) trivial rfl ?_
      refine .q (op_extract rfl rfl) trivial rfl ?_
      refine .q (op_assign rfl) trivial rfl ?_
      refine .q (op_assign rfl) trivial rfl ?_
      refine .nil ?_
      show Ev _ _ _ _ _
      refine .region ?_
      refine .q (op_move rfl) trivial rfl ?_
      refine .q (op_move rfl) trivial rfl ?_
      refine .q (op_assign rfl) trivial rfl ?_
      refine .q (op_assign rfl) trivial rfl ?_
      refine .nil ?_
      show Ev _ _ _ _ _
      refine .region ?_
      refine .q (op_move rfl) trivial rfl ?_
      refine .q (op_subI rfl rfl ⟨by first | omega | (simp only [AV.len]; omega) | (simp only [AV.len, List.length_set]; omega) | assumption | (simp [AV.len]; done), by first | omega | (simp only [AV.len]; omega) | (simp only [AV.len, List.length_set]; omega) | assumption | (simp [AV.len]; done)⟩) trivial rfl ?_
      refine .q (op_assign rfl) trivial rfl ?_
      refine .nil ?_
      first
        | exact ⟨some ⟨1, by omega⟩, (by show 256 - 1 < 300; decide), StLe.mk [(1000, 1000), (1008, 1008), (1016, 1048), (1024, 1049), (1040, 1056), (1032, 1057)] rfl rfl ⟨⟨_, rfl, by rfl, rfl⟩, ⟨_, rfl, by rfl, rfl⟩, ⟨_, rfl, by (show AV.sl 1016 0 (dl (csX 1 0 (ofV Q) 1)) 1 = AV.sl 1016 0 (dl ((L 1).1)) 1; rw [hT1 hc58]), rfl⟩, ⟨_, rfl, by (show AV.sl 1024 0 (dl (csZ (ofV Q) 1 0 (ofV Q) 1)) 1 = AV.sl 1024 0 (dl ((L 1).2.1)) 1; rw [hT1 hc58]), rfl⟩, ⟨_, rfl, by (show AV.sl 1040 0 (dl (dblX (ofV Q) 1)) 1 = AV.sl 1040 0 (dl ((L 1).2.2.1)) 1; rw [hT1 hc58]), rfl⟩, ⟨_, rfl, by (show AV.sl 1032 0 (dl (dblZ (ofV Q) 1)) 1 = AV.sl 1032 0 (dl ((L 1).2.2.2)) 1; rw [hT1 hc58]), rfl⟩, ⟨_, rfl, by exact congrArg AV.i64 (show (255 : Int) - 1 = 255 - ((1 : Nat) : Int) by decide), rfl⟩, trivial⟩ ⟨⟨_, _, rfl, rfl, rfl, rfl, id, rfl⟩, ⟨_, _, rfl, rfl, rfl, rfl, id, rfl⟩, ⟨_, _, rfl, rfl, by exact (congrArg (fun s : Nat × Nat × Nat × Nat => AV.aggI (dg (s.1))) (hT1 hc58)).symm, (Eq.refl (3 : Nat)), (fun _ => rfl), rfl⟩, ⟨_, _, rfl, rfl, by exact (congrArg (fun s : Nat × Nat × Nat × Nat => AV.aggI (dg (s.2.1))) (hT1 hc58)).symm, (Eq.refl (3 : Nat)), (fun _ => rfl), rfl⟩, ⟨_, _, rfl, rfl, by exact (congrArg (fun s : Nat × Nat × Nat × Nat => AV.aggI (dg (s.2.2.1))) (hT1 hc58)).symm, (Eq.refl (3 : Nat)), (fun _ => rfl), rfl⟩, ⟨_, _, rfl, rfl, by exact (congrArg (fun s : Nat × Nat × Nat × Nat => AV.aggI (dg (s.2.2.2))) (hT1 hc58)).symm, (Eq.refl (3 : Nat)), (fun _ => rfl), rfl⟩, trivial⟩⟩
        | exact ⟨some ⟨1, by omega⟩, (by show 256 - 1 < 300; decide), StLe.mk [(1000, 1000), (1008, 1008), (1016, 1056), (1024, 1057), (1040, 1048), (1032, 1049)] rfl rfl ⟨⟨_, rfl, by rfl, rfl⟩, ⟨_, rfl, by rfl, rfl⟩, ⟨_, rfl, by (show AV.sl 1016 0 (dl (dblX 1 0)) 1 = AV.sl 1016 0 (dl ((L 1).1)) 1; rw [hF1 hc58]), rfl⟩, ⟨_, rfl, by (show AV.sl 1024 0 (dl (dblZ 1 0)) 1 = AV.sl 1024 0 (dl ((L 1).2.1)) 1; rw [hF1 hc58]), rfl⟩, ⟨_, rfl, by (show AV.sl 1040 0 (dl (csX 1 0 (ofV Q) 1)) 1 = AV.sl 1040 0 (dl ((L 1).2.2.1)) 1; rw [hF1 hc58]), rfl⟩, ⟨_, rfl, by (show AV.sl 1032 0 (dl (csZ (ofV Q) 1 0 (ofV Q) 1)) 1 = AV.sl 1032 0 (dl ((L 1).2.2.2)) 1; rw [hF1 hc58]), rfl⟩, ⟨_, rfl, by exact congrArg AV.i64 (show (255 : Int) - 1 = 255 - ((1 : Nat) : Int) by decide), rfl⟩, trivial⟩ ⟨⟨_, _, rfl, rfl, rfl, rfl, id, rfl⟩, ⟨_, _, rfl, rfl, rfl, rfl, id, rfl⟩, ⟨_, _, rfl, rfl, by exact (congrArg (fun s : Nat × Nat × Nat × Nat => AV.aggI (dg (s.1))) (hF1 hc58)).symm, (Eq.refl (3 : Nat)), (fun _ => rfl), rfl⟩, ⟨_, _, rfl, rfl, by exact (congrArg (fun s : Nat × Nat × Nat × Nat => AV.aggI (dg (s.2.1))) (hF1 hc58)).symm, (Eq.refl (3 : Nat)), (fun _ => rfl), rfl⟩, ⟨_, _, rfl, rfl, by exact (congrArg (fun s : Nat × Nat × Nat × Nat => AV.aggI (dg (s.2.2.1))) (hF1 hc58)).symm, (Eq.refl (3 : Nat)), (fun _ => rfl), rfl⟩, ⟨_, _, rfl, rfl, by exact (congrArg (fun s : Nat × Nat × Nat × Nat => AV.aggI (dg (s.2.2.2))) (hF1 hc58)).symm, (Eq.refl (3 : Nat)), (fun _ => rfl), rfl⟩, trivial⟩⟩
  · try dsimp only
    have hb := hB i
    refine .seq ?_
    refine .seq ?_
    refine .region ?_
    refine .q (op_move rfl) trivial rfl ?_
    refine .q (op_cmpI rfl rfl rfl) trivial rfl ?_
    refine .nil ?_
    show Ev _ _ _ _ _
    refine .cond rfl (fun hc37 => ?_) (fun hc37 => ?_)
    · first | replace hc37 := of_decide_eq_true hc37 | replace hc37 := of_decide_eq_false hc37 | replace hc37 := eq_of_beq hc37 | replace hc37 := ne_of_beq_false hc37 | simp only [bne_iff_ne, ne_eq] at hc37 | simp only [bne_eq_false_iff_eq] at hc37
      refine .skip ?_
      show Ev _ _ _ _ _
      refine .seq ?_
      refine .block ?_
      refine .seq ?_
      refine .region ?_
      refine .q (op_move rfl) trivial rfl ?_
      refine .q (op_move rfl) trivial rfl ?_
      refine .q (op_move rfl) trivial rfl ?_
      refine .q (op_move rfl) trivial rfl ?_
      refine .q (op_move rfl) trivial rfl ?_
      refine .a (op_call (U := [(1048, some ⟨.aggI (dg (csX (L (i)).1 (L (i)).2.1 (L (i)).2.2.1 (L (i)).2.2.2)), 3, true⟩), (1049, some ⟨.aggI (dg (csZ (ofV Q) (L (i)).1 (L (i)).2.1 (L (i)).2.2.1 (L (i)).2.2.2)), 3, true⟩)]) [(500, 1008), (501, 1016), (502, 1024), (503, 1040), (504, 1032)] [(1048, 1000), (1049, 1001)] (sum06 (ofV Q) (L (i)).1 (L (i)).2.1 (L (i)).2.2.1 (L (i)).2.2.2 (by first | assumption | exact hb.1 | exact hb.2.1 | exact hb.2.2.1 | exact hb.2.2.2 | exact ofV_lt _ | decide) (by first | assumption | exact hb.1 | exact hb.2.1 | exact hb.2.2.1 | exact hb.2.2.2 | exact ofV_lt _ | decide) (by first | assumption | exact hb.1 | exact hb.2.1 | exact hb.2.2.1 | exact hb.2.2.2 | exact ofV_lt _ | decide) (by first | assumption | exact hb.1 | exact hb.2.1 | exact hb.2.2.1 | exact hb.2.2.2 | exact ofV_lt _ | decide) (by first | assumption | exact hb.1 | exact hb.2.1 | exact hb.2.2.1 | exact hb.2.2.2 | exact ofV_lt _ | decide)) Tryd.func98 (by kernel_rfl) rfl rfl rfl (⟨⟨_, rfl, rfl, rfl⟩, ⟨_, rfl, rfl, rfl⟩, ⟨_, rfl, rfl, rfl⟩, ⟨_, rfl, rfl, rfl⟩, ⟨_, rfl, rfl, rfl⟩, trivial⟩) (⟨⟨_, _, rfl, rfl, rfl, rfl, (fun h => by cases h), rfl⟩, ⟨_, _, rfl, rfl, rfl, rfl, (fun h => by cases h), rfl⟩, ⟨_, _, rfl, rfl, rfl, rfl, (fun h => by cases h), rfl⟩, ⟨_, _, rfl, rfl, rfl, rfl, (fun h => by cases h), rfl⟩, ⟨_, _, rfl, rfl, rfl, rfl, (fun h => by cases h), rfl⟩, trivial⟩) (⟨⟨1000, _, rfl, rfl, rfl, rfl, .inl rfl⟩, ⟨1001, _, rfl, rfl, rfl, rfl, .inl rfl⟩, trivial⟩) (⟨(fun h => by cases h), (fun h => by cases h), (fun h => by cases h), (fun h => by cases h), (fun h => by cases h), trivial⟩) rfl) trivial rfl ?_
      refine .q (op_move rfl) trivial rfl ?_
      refine .q (op_extract rfl rfl) trivial rfl ?_
      refine .q (op_extract rfl rfl) trivial rfl ?_
      refine .q (op_assign rfl) trivial rfl ?_
      refine .q (op_assign rfl) trivial rfl ?_
      refine .nil ?_
      show Ev _ _ _ _ _
      refine .seq ?_
      refine .region ?_
      refine .q (op_move rfl) trivial rfl ?_
      refine .q (op_move rfl) trivial rfl ?_
      refine .q (op_quoI rfl rfl ⟨by omega, ⟨by omega, by omega⟩, by omega⟩) trivial rfl ?_
      refine .q (ap_idx0 Tryd.underlying27 inf5.sz rfl rfl (i := (255 - i) / 8) (by omega) (by omega)) trivial rfl ?_
      refine .q (op_load Tryd.underlying5 rfl rfl rfl rfl (by show (255 - i) / 8 < (usR K).length; rw [length_usR]; omega)) trivial rfl ?_
      refine .q (op_move rfl) trivial rfl ?_
      refine .q (op_remI rfl rfl ⟨by first | omega | (simp only [AV.len]; omega) | (simp only [AV.len, List.length_set]; omega) | assumption | (simp [AV.len]; done), by first | omega | (simp only [AV.len]; omega) | (simp only [AV.len, List.length_set]; omega) | assumption | (simp [AV.len]; done)⟩) trivial rfl ?_
      refine .q (op_shr8 (n := (255 - i) % 8) rfl rfl (by simp only [shiftBy]; rw [show ((255 : Int) - ((i : Nat) : Int)) % 8 = (((255 - i) % 8 : Nat) : Int) by omega]) (by omega)) trivial rfl ?_
      refine .q (op_rem8 rfl rfl (by decide)) trivial rfl ?_
      refine .q (op_bin8 rfl rfl rfl) trivial rfl ?_
      refine .as (.bool (kb (usR K) (255 - i))) (congrArg AV.bool (bit_ref (usR K) (255 - i))) ?_
      refine .nil ?_
      show Ev _ _ _ _ _
      refine .cond rfl (fun hc58 => ?_) (fun hc58 => ?_)
      · skip
        refine .seq ?_
        refine .region ?_
        refine .q (op_move rfl) trivial rfl ?_
        refine .q (op_move rfl) trivial rfl ?_
        refine .a (op_call (U := [(1056, some ⟨.aggI (dg (dblX (L (i)).2.2.1 (L (i)).2.2.2)), 3, true⟩), (1057, some ⟨.aggI (dg (dblZ (L (i)).2.2.1 (L (i)).2.2.2)), 3, true⟩)]) [(500, 1040), (501, 1032)] [(1056, 1000), (1057, 1001)] (twice06 (L (i)).2.2.1 (L (i)).2.2.2 (by first | assumption | exact hb.1 | exact hb.2.1 | exact hb.2.2.1 | exact hb.2.2.2 | exact ofV_lt _ | decide) (by first | assumption | exact hb.1 | exact hb.2.1 | exact hb.2.2.1 | exact hb.2.2.2 | exact ofV_lt _ | decide)) Tryd.func99 (by kernel_rfl) rfl rfl rfl (⟨⟨_, rfl, rfl, rfl⟩, ⟨_, rfl, rfl, rfl⟩, trivial⟩) (⟨⟨_, _, rfl, rfl, rfl, rfl, (fun h => by cases h), rfl⟩, ⟨_, _, rfl, rfl, rfl, rfl, (fun h => by cases h), rfl⟩, trivial⟩) (⟨⟨1000, _, rfl, rfl, rfl, rfl, .inl rfl⟩, ⟨1001, _, rfl, rfl, rfl, rfl, .inl rfl⟩, trivial⟩) (⟨(fun h => by cases h), (fun h => by cases h), trivial⟩) rfl) trivial rfl ?_
        refine .q (op_move rfl) trivial rfl ?_
        refine .q (op_extract rfl rfl) trivial rfl ?_
        refine .q (op_extract rfl rfl) trivial rfl ?_
        refine .q (op_assign rfl) trivial rfl ?_
        refine .q (op_assign rfl) trivial rfl ?_
        refine .nil ?_
        show Ev _ _ _ _ _
        refine .region ?_
        refine .q (op_move rfl) trivial rfl ?_
        refine .q (op_move rfl) trivial rfl ?_
        refine .q (op_assign rfl) trivial rfl ?_
        refine .q (op_assign rfl) trivial rfl ?_
        refine .nil ?_
        show Ev _ _ _ _ _
        refine .region ?_
        refine .q (op_move rfl) trivial rfl ?_
        refine .q (op_subI rfl rfl ⟨by first | omega | (simp only [AV.len]; omega) | (simp only [AV.len, List.length_set]; omega) | assumption | (simp [AV.len]; done), by first | omega | (simp only [AV.len]; omega) | (simp only [AV.len, List.length_set]; omega) | assumption | (simp [AV.len]; done)⟩) trivial rfl ?_
        refine .q (op_assign rfl) trivial rfl ?_
        refine .nil ?_
        first
          | exact ⟨some ⟨i + 1, by omega⟩, (by show 256 - (i + 1) < 256 - i; omega), StLe.mk [(1000, 1000), (1008, 1008), (1016, 1048), (1024, 1049), (1040, 1056), (1032, 1057)] rfl rfl ⟨⟨_, rfl, by rfl, rfl⟩, ⟨_, rfl, by rfl, rfl⟩, ⟨_, rfl, by (show AV.sl 1016 0 (dl (csX (L (i)).1 (L (i)).2.1 (L (i)).2.2.1 (L (i)).2.2.2)) 1 = _; rw [hT i hc58]), rfl⟩, ⟨_, rfl, by (show AV.sl 1024 0 (dl (csZ (ofV Q) (L (i)).1 (L (i)).2.1 (L (i)).2.2.1 (L (i)).2.2.2)) 1 = _; rw [hT i hc58]), rfl⟩, ⟨_, rfl, by (show AV.sl 1040 0 (dl (dblX (L (i)).2.2.1 (L (i)).2.2.2)) 1 = _; rw [hT i hc58]), rfl⟩, ⟨_, rfl, by (show AV.sl 1032 0 (dl (dblZ (L (i)).2.2.1 (L (i)).2.2.2)) 1 = _; rw [hT i hc58]), rfl⟩, ⟨_, rfl, by (simp only [AV.ren]; congr 1; omega), rfl⟩, trivial⟩ ⟨⟨_, _, rfl, rfl, rfl, rfl, id, rfl⟩, ⟨_, _, rfl, rfl, rfl, rfl, id, rfl⟩, ⟨_, _, rfl, rfl, by (show AV.aggI (dg (csX (L (i)).1 (L (i)).2.1 (L (i)).2.2.1 (L (i)).2.2.2)) = _; rw [hT i hc58]), rfl, id, rfl⟩, ⟨_, _, rfl, rfl, by (show AV.aggI (dg (csZ (ofV Q) (L (i)).1 (L (i)).2.1 (L (i)).2.2.1 (L (i)).2.2.2)) = _; rw [hT i hc58]), rfl, id, rfl⟩, ⟨_, _, rfl, rfl, by (show AV.aggI (dg (dblX (L (i)).2.2.1 (L (i)).2.2.2)) = _; rw [hT i hc58]), rfl, id, rfl⟩, ⟨_, _, rfl, rfl, by (show AV.aggI (dg (dblZ (L (i)).2.2.1 (L (i)).2.2.2)) = _; rw [hT i hc58]), rfl, id, rfl⟩, trivial⟩⟩
          | exact ⟨some ⟨i + 1, by omega⟩, (by show 256 - (i + 1) < 256 - i; omega), StLe.mk [(1000, 1000), (1008, 1008), (1016, 1056), (1024, 1057), (1040, 1048), (1032, 1049)] rfl rfl ⟨⟨_, rfl, by rfl, rfl⟩, ⟨_, rfl, by rfl, rfl⟩, ⟨_, rfl, by (show AV.sl 1016 0 (dl (dblX (L (i)).1 (L (i)).2.1)) 1 = _; rw [hF i hc58]), rfl⟩, ⟨_, rfl, by (show AV.sl 1024 0 (dl (dblZ (L (i)).1 (L (i)).2.1)) 1 = _; rw [hF i hc58]), rfl⟩, ⟨_, rfl, by (show AV.sl 1040 0 (dl (csX (L (i)).1 (L (i)).2.1 (L (i)).2.2.1 (L (i)).2.2.2)) 1 = _; rw [hF i hc58]), rfl⟩, ⟨_, rfl, by (show AV.sl 1032 0 (dl (csZ (ofV Q) (L (i)).1 (L (i)).2.1 (L (i)).2.2.1 (L (i)).2.2.2)) 1 = _; rw [hF i hc58]), rfl⟩, ⟨_, rfl, by (simp only [AV.ren]; congr 1; omega), rfl⟩, trivial⟩ ⟨⟨_, _, rfl, rfl, rfl, rfl, id, rfl⟩, ⟨_, _, rfl, rfl, rfl, rfl, id, rfl⟩, ⟨_, _, rfl, rfl, by (show AV.aggI (dg (dblX (L (i)).1 (L (i)).2.1)) = _; rw [hF i hc58]), rfl, id, rfl⟩, ⟨_, _, rfl, rfl, by (show AV.aggI (dg (dblZ (L (i)).1 (L (i)).2.1)) = _; rw [hF i hc58]), rfl, id, rfl⟩, ⟨_, _, rfl, rfl, by (show AV.aggI (dg (csX (L (i)).1 (L (i)).2.1 (L (i)).2.2.1 (L (i)).2.2.2)) = _; rw [hF i hc58]), rfl, id, rfl⟩, ⟨_, _, rfl, rfl, by (show AV.aggI (dg (csZ (ofV Q) (L (i)).1 (L (i)).2.1 (L (i)).2.2.1 (L (i)).2.2.2)) = _; rw [hF i hc58]), rfl, id, rfl⟩, trivial⟩⟩
      · skip
        refine .seq ?_
        refine .region ?_
        refine .q (op_move rfl) trivial rfl ?_
        refine .q (op_move rfl) trivial rfl ?_
        refine .a (op_call (U := [(1056, some ⟨.aggI (dg (dblX (L (i)).1 (L (i)).2.1)), 3, true⟩), (1057, some ⟨.aggI (dg (dblZ (L (i)).1 (L (i)).2.1)), 3, true⟩)]) [(500, 1016), (501, 1024)] [(1056, 1000), (1057, 1001)] (twice06 (L (i)).1 (L (i)).2.1 (by first | assumption | exact hb.1 | exact hb.2.1 | exact hb.2.2.1 | exact hb.2.2.2 | exact ofV_lt _ | decide) (by first | assumption | exact hb.1 | exact hb.2.1 | exact hb.2.2.1 | exact hb.2.2.2 | exact ofV_lt _ | decide)) Tryd.func99 (by kernel_rfl) rfl rfl rfl (⟨⟨_, rfl, rfl, rfl⟩, ⟨_, rfl, rfl, rfl⟩, trivial⟩) (⟨⟨_, _, rfl, rfl, rfl, rfl, (fun h => by cases h), rfl⟩, ⟨_, _, rfl, rfl, rfl, rfl, (fun h => by cases h), rfl⟩, trivial⟩) (⟨⟨1000, _, rfl, rfl, rfl, rfl, .inl rfl⟩, ⟨1001, _, rfl, rfl, rfl, rfl, .inl rfl⟩, trivial⟩) (⟨(fun h => by cases h), (fun h => by cases h), trivial⟩) rfl) trivial rfl ?_
        refine .q (op_move rfl) trivial rfl ?_
        refine .q (op_extract rfl rfl) trivial rfl ?_
        refine .q (op_extract rfl rfl) trivial rfl ?_
        refine .q (op_assign rfl) trivial rfl ?_
        refine .q (op_assign rfl) trivial rfl ?_
        refine .nil ?_
        show Ev _ _ _ _ _
        refine .region ?_
        refine .q (op_move rfl) trivial rfl ?_
        refine .q (op_move rfl) trivial rfl ?_
        refine .q (op_assign rfl) trivial rfl ?_
        refine .q (op_assign rfl) trivial rfl ?_
        refine .nil ?_
        show Ev _ _ _ _ _
        refine .region ?_
        refine .q (op_move rfl) trivial rfl ?_
        refine .q (op_subI rfl rfl ⟨by first | omega | (simp only [AV.len]; omega) | (simp only [AV.len, List.length_set]; omega) | assumption | (simp [AV.len]; done), by first | omega | (simp only [AV.len]; omega) | (simp only [AV.len, List.length_set]; omega) | assumption | (simp [AV.len]; done)⟩) trivial rfl ?_
        refine .q (op_assign rfl) trivial rfl ?_
        refine .nil ?_
        first
          | exact ⟨some ⟨i + 1, by omega⟩, (by show 256 - (i + 1) < 256 - i; omega), StLe.mk [(1000, 1000), (1008, 1008), (1016, 1048), (1024, 1049), (1040, 1056), (1032, 1057)] rfl rfl ⟨⟨_, rfl, by rfl, rfl⟩, ⟨_, rfl, by rfl, rfl⟩, ⟨_, rfl, by (show AV.sl 1016 0 (dl (csX (L (i)).1 (L (i)).2.1 (L (i)).2.2.1 (L (i)).2.2.2)) 1 = _; rw [hT i hc58]), rfl⟩, ⟨_, rfl, by (show AV.sl 1024 0 (dl (csZ (ofV Q) (L (i)).1 (L (i)).2.1 (L (i)).2.2.1 (L (i)).2.2.2)) 1 = _; rw [hT i hc58]), rfl⟩, ⟨_, rfl, by (show AV.sl 1040 0 (dl (dblX (L (i)).2.2.1 (L (i)).2.2.2)) 1 = _; rw [hT i hc58]), rfl⟩, ⟨_, rfl, by (show AV.sl 1032 0 (dl (dblZ (L (i)).2.2.1 (L (i)).2.2.2)) 1 = _; rw [hT i hc58]), rfl⟩, ⟨_, rfl, by (simp only [AV.ren]; congr 1; omega), rfl⟩, trivial⟩ ⟨⟨_, _, rfl, rfl, rfl, rfl, id, rfl⟩, ⟨_, _, rfl, rfl, rfl, rfl, id, rfl⟩, ⟨_, _, rfl, rfl, by (show AV.aggI (dg (csX (L (i)).1 (L (i)).2.1 (L (i)).2.2.1 (L (i)).2.2.2)) = _; rw [hT i hc58]), rfl, id, rfl⟩, ⟨_, _, rfl, rfl, by (show AV.aggI (dg (csZ (ofV Q) (L (i)).1 (L (i)).2.1 (L (i)).2.2.1 (L (i)).2.2.2)) = _; rw [hT i hc58]), rfl, id, rfl⟩, ⟨_, _, rfl, rfl, by (show AV.aggI (dg (dblX (L (i)).2.2.1 (L (i)).2.2.2)) = _; rw [hT i hc58]), rfl, id, rfl⟩, ⟨_, _, rfl, rfl, by (show AV.aggI (dg (dblZ (L (i)).2.2.1 (L (i)).2.2.2)) = _; rw [hT i hc58]), rfl, id, rfl⟩, trivial⟩⟩
          | exact ⟨some ⟨i + 1, by omega⟩, (by show 256 - (i + 1) < 256 - i; omega), StLe.mk [(1000, 1000), (1008, 1008), (1016, 1056), (1024, 1057), (1040, 1048), (1032, 1049)] rfl rfl ⟨⟨_, rfl, by rfl, rfl⟩, ⟨_, rfl, by rfl, rfl⟩, ⟨_, rfl, by (show AV.sl 1016 0 (dl (dblX (L (i)).1 (L (i)).2.1)) 1 = _; rw [hF i hc58]), rfl⟩, ⟨_, rfl, by (show AV.sl 1024 0 (dl (dblZ (L (i)).1 (L (i)).2.1)) 1 = _; rw [hF i hc58]), rfl⟩, ⟨_, rfl, by (show AV.sl 1040 0 (dl (csX (L (i)).1 (L (i)).2.1 (L (i)).2.2.1 (L (i)).2.2.2)) 1 = _; rw [hF i hc58]), rfl⟩, ⟨_, rfl, by (show AV.sl 1032 0 (dl (csZ (ofV Q) (L (i)).1 (L (i)).2.1 (L (i)).2.2.1 (L (i)).2.2.2)) 1 = _; rw [hF i hc58]), rfl⟩, ⟨_, rfl, by (simp only [AV.ren]; congr 1; omega), rfl⟩, trivial⟩ ⟨⟨_, _, rfl, rfl, rfl, rfl, id, rfl⟩, ⟨_, _, rfl, rfl, rfl, rfl, id, rfl⟩, ⟨_, _, rfl, rfl, by (show AV.aggI (dg (dblX (L (i)).1 (L (i)).2.1)) = _; rw [hF i hc58]), rfl, id, rfl⟩, ⟨_, _, rfl, rfl, by (show AV.aggI (dg (dblZ (L (i)).1 (L (i)).2.1)) = _; rw [hF i hc58]), rfl, id, rfl⟩, ⟨_, _, rfl, rfl, by (show AV.aggI (dg (csX (L (i)).1 (L (i)).2.1 (L (i)).2.2.1 (L (i)).2.2.2)) = _; rw [hF i hc58]), rfl, id, rfl⟩, ⟨_, _, rfl, rfl, by (show AV.aggI (dg (csZ (ofV Q) (L (i)).1 (L (i)).2.1 (L (i)).2.2.1 (L (i)).2.2.2)) = _; rw [hF i hc58]), rfl, id, rfl⟩, trivial⟩⟩
    · first | replace hc37 := of_decide_eq_true hc37 | replace hc37 := of_decide_eq_false hc37 | replace hc37 := eq_of_beq hc37 | replace hc37 := ne_of_beq_false hc37 | simp only [bne_iff_ne, ne_eq] at hc37 | simp only [bne_eq_false_iff_eq] at hc37
      refine .exit ?_
      show Ev _ _ _ _ _
      refine .seq ?_
      refine .region ?_
      refine .q (op_move rfl) trivial rfl ?_
      refine .q (op_move rfl) trivial rfl ?_
      refine .a (op_call (U := [(1048, some ⟨.aggI (dg (((L (i)).2.1 ^ (fp - 2) % fp))), 3, true⟩)]) [(500, 1024)] [(1048, 1000)] (invert05 (L (i)).2.1 (by first | assumption | exact hb.1 | exact hb.2.1 | exact hb.2.2.1 | exact hb.2.2.2 | exact ofV_lt _ | decide)) Tryd.func44 (by kernel_rfl) rfl rfl rfl (⟨⟨_, rfl, rfl, rfl⟩, trivial⟩) (⟨⟨_, _, rfl, rfl, rfl, rfl, (fun h => by cases h), rfl⟩, trivial⟩) (⟨⟨1000, _, rfl, rfl, rfl, rfl, .inl rfl⟩, trivial⟩) (⟨(fun h => by cases h), trivial⟩) rfl) trivial rfl ?_
      refine .a (op_call (U := [(1056, some ⟨.aggI (dg (((L (i)).1 * ((L (i)).2.1 ^ (fp - 2) % fp) % fp))), 3, true⟩)]) [(500, 1016), (501, 1048)] [(1056, 1000)] (mul05 (L (i)).1 ((L (i)).2.1 ^ (fp - 2) % fp) (by first | assumption | exact hb.1 | exact hb.2.1 | exact hb.2.2.1 | exact hb.2.2.2 | exact ofV_lt _ | decide) (Nat.mod_lt _ fp_pos')) Tryd.func36 (by kernel_rfl) rfl rfl rfl (⟨⟨_, rfl, rfl, rfl⟩, ⟨_, rfl, rfl, rfl⟩, trivial⟩) (⟨⟨_, _, rfl, rfl, rfl, rfl, (fun h => by cases h), rfl⟩, ⟨_, _, rfl, rfl, rfl, rfl, (fun h => by cases h), rfl⟩, trivial⟩) (⟨⟨1000, _, rfl, rfl, rfl, rfl, .inl rfl⟩, trivial⟩) (⟨(fun h => by cases h), (fun h => by cases h), trivial⟩) rfl) trivial rfl ?_
      refine .q (op_call (U := []) [(500, 1056)] [] (bytes05 ((L (i)).1 * ((L (i)).2.1 ^ (fp - 2) % fp) % fp)) Tryd.func86 (by kernel_rfl) rfl rfl rfl (⟨⟨_, rfl, rfl, rfl⟩, trivial⟩) (⟨⟨_, _, rfl, rfl, rfl, rfl, (fun h => by cases h), rfl⟩, trivial⟩) (trivial) (⟨(fun h => by cases h), trivial⟩) rfl) trivial rfl ?_
      refine .q (op_assign rfl) trivial rfl ?_
      refine .nil ?_
      show Ev _ _ _ _ _
      refine .ret ?_
      show RetOk _ _ _ _ _ _ _
      exact ret1v rfl (.inl rfl) rfl (congrArg (fun z => AV.str (bsN z 32)) (by rw [show i = 256 by omega, hL]; rfl)) trivial
end Go.Proofs.YtjhpelajhkhlcaaDoor
namespace Go.Proofs.YtjhpelajhkhlcaaDoor
open Go.RowKit
set_option maxHeartbeats 1000000 in
set_option maxRecDepth 100000 in
theorem curveMults_ev (e : Nat) (K Q : List UInt8) (hK : K.length = 32) (hQ : Q.length = 32) : Meets Tryd.prog 12 [.aggB K, .aggB Q] (HP e) (.bool true) [] := by
  refine meets_of_ev (nt := 30) Tryd.func12 rfl rfl (Nat.le_of_ble_eq_true rfl) ?_
  refine .seq ?_
  refine .region ?_
  refine .a (op_boxRow rfl rfl) trivial rfl ?_
  refine .a (op_boxRow rfl rfl) trivial rfl ?_
  refine .q (op_assign rfl) trivial rfl ?_
  refine .nil ?_
  show Ev _ _ _ _ _
  refine .seq ?_
  refine .seq ?_
  refine .region ?_
  refine .q (op_call (U := []) [] [] (awake6_ev e) Tryd.func48 (by kernel_rfl) rfl rfl rfl (trivial) (⟨⟨_, _, rfl, rfl, rfl, rfl, id, rfl⟩, trivial⟩) (trivial) (⟨(fun h => by cases h), trivial⟩) rfl) trivial rfl ?_
  refine .q (op_notB rfl) trivial rfl ?_
  refine .nil ?_
  show Ev _ _ _ _ _
  refine .cond_false rfl (rfl) ?_
  refine .skip ?_
  show Ev _ _ _ _ _
  refine .seq ?_
  refine .region ?_
  refine .q (op_loadRow Tryd.underlying22 rfl sz22 rfl rfl rfl (by simp only [AV.len] <;> first | assumption | omega)) trivial rfl ?_
  refine .q (op_loadRow Tryd.underlying22 rfl sz22 rfl rfl rfl (by simp only [AV.len] <;> first | assumption | omega)) trivial rfl ?_
  refine .q (op_call (U := []) [] [] (cmult_ev e K Q hK hQ) Tryd.func49 (by kernel_rfl) rfl rfl rfl (⟨⟨_, rfl, rfl, rfl⟩, ⟨_, rfl, rfl, rfl⟩, trivial⟩) (⟨⟨_, _, rfl, rfl, rfl, rfl, id, rfl⟩, trivial⟩) (trivial) (⟨(fun h => by cases h), trivial⟩) rfl) trivial rfl ?_
  refine .as (.tup [.aggB (bsN (tmV (usL K) (ofV Q)) 32), .bool (!decide (tmV (usL K) (ofV Q) = 0))]) rfl ?_
  refine .q (op_move rfl) trivial rfl ?_
  refine .q (op_extract rfl rfl) trivial rfl ?_
  refine .q (op_extract rfl rfl) trivial rfl ?_
  refine .a (op_allocRow zero22 rel_zero22 rfl) trivial rfl ?_
  refine .w (op_storeRow sz22 rfl rfl rfl rfl rfl (by simp only [AV.len, length_bsN] <;> first | assumption | omega) (by simp only [AV.len, List.length_replicate] <;> first | assumption | omega)) trivial rfl ?_
  refine .q (op_assign rfl) trivial rfl ?_
  refine .nil ?_
  show Ev _ _ _ _ _
  refine .seq ?_
  refine .drawn [[], [0], [], [2], [], [4], [2, 3, 4, 5], [0, 1, 2, 3, 4, 5, 6], [0, 1, 2, 3, 4, 5, 6, 7], [0, 1, 2, 3, 4, 5, 6, 7, 8], [0, 1, 2, 3, 4, 5, 6, 7, 8], [0, 1, 2, 3, 4, 5, 6, 7, 8], [0, 1, 2, 3, 4, 5, 6, 7, 8, 10, 11], [0, 1, 2, 3, 4, 5, 6, 7, 8, 9, 10, 11, 12], [0, 1, 2, 3, 4, 5, 6, 7, 8, 9, 10, 11, 12, 13], [0, 1, 2, 3, 4, 5, 6, 7, 8, 9, 10, 11, 12, 13, 14]] [0, 1, 2, 3, 4, 5, 6, 10] [] (by kernel_rfl) (by kernel_rfl) rfl ?_
  show DK _ [0, 1, 2, 3, 4, 5, 6, 7, 8, 9, 10, 11, 12, 13, 14, 15] _ _ _
  refine .q rfl (ap_slice_arr_hi Tryd.underlying22 inf5.sz rfl rfl (by first | omega | (simp [AV.len, length_bsN]; done)) (by decide) rfl (by first | omega | (simp [AV.len, length_bsN]; done))) trivial ?_
  refine .q rfl (op_bytes_str Tryd.underlying27 Tryd.underlying5 Tryd.underlying9 rfl rfl rfl (by simp [length_bsN])) trivial ?_
  refine .as (.str (bsN (tmV (usL K) (ofV Q)) 32)) (by rw [List.drop_zero, List.take_of_length_le (by simp [length_bsN])]) ?_
  refine .q rfl (ap_slice_arr_hi Tryd.underlying22 inf5.sz rfl rfl (by first | omega | (simp [AV.len, hK]; done)) (by decide) rfl (by first | omega | (simp [AV.len, hK]; done))) trivial ?_
  refine .q rfl (op_bytes_str Tryd.underlying27 Tryd.underlying5 Tryd.underlying9 rfl rfl rfl (by first | omega | (simp [hK]; done))) trivial ?_
  refine .as (.str K) (by rw [List.drop_zero, List.take_of_length_le (Nat.le_of_eq hK)]) ?_
  refine .q rfl (ap_slice_arr_hi Tryd.underlying22 inf5.sz rfl rfl (by first | omega | (simp [AV.len, hQ]; done)) (by decide) rfl (by first | omega | (simp [AV.len, hQ]; done))) trivial ?_
  refine .q rfl (op_bytes_str Tryd.underlying27 Tryd.underlying5 Tryd.underlying9 rfl rfl rfl (by first | omega | (simp [hQ]; done))) trivial ?_
  refine .as (.str Q) (by rw [List.drop_zero, List.take_of_length_le (Nat.le_of_eq hQ)]) ?_
  refine .q rfl (op_call (U := []) [] [] (mult06 K Q hK hQ) Tryd.func50 (by kernel_rfl) rfl rfl rfl (⟨⟨_, rfl, rfl, rfl⟩, ⟨_, rfl, rfl, rfl⟩, trivial⟩) (trivial) (trivial) (trivial) rfl) trivial ?_
  refine .as (.str (bsN (tmV (usL K) (ofV Q)) 32)) (by show AV.str (bsN (tmV (usR K) (ofV Q)) 32) = _; rw [← us_eq K hK]) ?_
  refine .q rfl (op_eqS rfl rfl rfl) trivial ?_
  refine .q rfl (op_move rfl) trivial ?_
  refine .know (b' := true) (by simp) ?_
  refine .q rfl (op_move rfl) ⟨_, rfl, rfl⟩ ?_
  refine .q rfl (op_loadRow Tryd.underlying22 rfl sz22 rfl rfl rfl (by simp only [AV.len, length_bsN] <;> first | assumption | omega)) ⟨_, rfl, rfl⟩ ?_
  refine .q rfl (op_buildArr (us := []) Tryd.underlying22 inf5.sz zero22 rel_zero22 rfl (by decide) trivial rfl) ⟨_, rfl, rfl⟩ ?_
  refine .q rfl (op_neqRow8 (n := 32) (by kernel_rfl) Tryd.underlying22 Tryd.underlying5 inf5.sz rfl rfl (by simp only [length_bsN] <;> first | assumption | omega) (by simp only [List.length_replicate] <;> first | assumption | omega)) ⟨_, rfl, rfl⟩ ?_
  refine .q rfl (op_eqB Tryd.underlying4 rfl rfl rfl) ⟨_, rfl, rfl⟩ ?_
  refine .q rfl (op_pick_true rfl rfl rfl) trivial ?_
  refine .q rfl (op_assign rfl) trivial ?_
  refine .nil ?_
  show Ev _ _ _ _ _
  refine .ret ?_
  show RetOk _ _ _ _ _ _ _
  exact ret1v rfl (.inl rfl) rfl (by show AV.bool ((!decide (tmV (usL K) (ofV Q) = 0)) == (bsN (tmV (usL K) (ofV Q)) 32 != List.replicate 32 0)) = _; rw [bs_ne _ (tmV_lt _ _)]; simp) trivial
end Go.Proofs.YtjhpelajhkhlcaaDoor
