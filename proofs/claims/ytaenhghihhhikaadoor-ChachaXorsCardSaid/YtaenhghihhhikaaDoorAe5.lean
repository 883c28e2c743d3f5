/-
  Operations that make blocks, append and copy, conversions, strings; calls. Nothing of the program is named here.
-/
import Derived.Test.YtaenhghihhhikaaDoorAe4
import Derived.Conc.MuLone
namespace Go.Proofs.YtaenhghihhhikaaDoor
open Go.RowKit

section
variable {P : Program} {T : Nat → Option AV} {H : Hp} {nm : Nat} {wr : Bool} {v u u1 u2 c c' : AV} {d : Option Tmp} {ty : TypeId} {ps : String} {af : Array Edge} {gd : Option (Nat × Bool)} {t t' t2 e : TypeId} {x y : Operand} {dd d2 : TypeDesc} {b o n z i m b2 : Nat} {k k2 : ABlk}
/-! Conversions. -/
def ofI8 (n : Int) : UInt8 := UInt8.ofNat (n % 256).toNat
def ofI32 (n : Int) : UInt32 := UInt32.ofNat (n % 4294967296).toNat
def ofI64 (n : Int) : UInt64 := UInt64.ofNat (n % 18446744073709551616).toNat
theorem ofI8_toNat (n : Int) : ((ofI8 n).toNat : Int) = n % 256 := by unfold ofI8; rw [UInt8.toNat_ofNat_of_lt' (by simp; omega)]; omega
theorem ofI32_toNat (n : Int) : ((ofI32 n).toNat : Int) = n % 4294967296 := by unfold ofI32; rw [UInt32.toNat_ofNat_of_lt' (by simp; omega)]; omega
theorem ofI64_toNat (n : Int) : ((ofI64 n).toNat : Int) = n % 18446744073709551616 := by unfold ofI64; rw [UInt64.toNat_ofNat_of_lt' (by simp; omega)]; omega
def convTo : IntKind → AV → Option AV
  | .u8, .u8 x => some (.u8 x)
  | .u8, .u32 x => some (.u8 x.toUInt8)
  | .u8, .u64 x => some (.u8 x.toUInt8)
  | .u8, .i64 x => some (.u8 (ofI8 x))
  | .u32, .u8 x => some (.u32 x.toUInt32)
  | .u32, .u32 x => some (.u32 x)
  | .u32, .u64 x => some (.u32 x.toUInt32)
  | .u32, .i64 x => some (.u32 (ofI32 x))
  | .u64, .u8 x => some (.u64 x.toUInt64)
  | .u64, .u32 x => some (.u64 x.toUInt64)
  | .u64, .u64 x => some (.u64 x)
  | .u64, .i64 x => some (.u64 (ofI64 x))
  | .i64, .u8 x => some (.i64 (x.toNat : Int))
  | .i64, .u32 x => some (.i64 (x.toNat : Int))
  | _, _ => none
theorem convTo_num {kd : IntKind} (h : convTo kd u = some v) {E : Emb} {yv : Value} (hr : Rel E u yv) : ∃ k n, yv = .int k n ∧ Rel E v (.int kd (kd.wrap n)) := by
  unfold convTo at h
  split at h <;> first | cases h | (injection h with h; subst h)
  · exact ⟨_, _, hr.u8_inv, by have := wrap_n8 ‹UInt8›; unfold n8 at this; rw [this]; exact .u8 _⟩
  · exact ⟨_, _, hr.u32_inv, by have := n8_of_n32 ‹UInt32›; unfold n8 n32 at this; rw [this]; exact .u8 _⟩
  · exact ⟨_, _, hr.u64_inv, by have := n8_of_n64 ‹UInt64›; unfold n8 n64 at this; rw [this]; exact .u8 _⟩
  · exact ⟨_, _, hr.i64_inv, by rw [wrap_u8, ← ofI8_toNat]; exact .u8 _⟩
  · rename_i x; exact ⟨_, _, hr.u8_inv, by have h1 := x.toNat_lt; rw [wrap_u32, Int.emod_eq_of_lt (by omega) (by omega), ← UInt8.toNat_toUInt32]; exact .u32 _⟩
  · exact ⟨_, _, hr.u32_inv, by have := wrap_n32 ‹UInt32›; unfold n32 at this; rw [this]; exact .u32 _⟩
  · rename_i x; exact ⟨_, _, hr.u64_inv, by
      have e : (x.toNat : Int) % 4294967296 = ((x.toUInt32.toNat : Nat) : Int) := by rw [UInt64.toNat_toUInt32]; omega
      rw [wrap_u32, e]; exact .u32 _⟩
  · exact ⟨_, _, hr.i64_inv, by rw [wrap_u32, ← ofI32_toNat]; exact .u32 _⟩
  · rename_i x; exact ⟨_, _, hr.u8_inv, by have h1 := x.toNat_lt; rw [wrap_u64, Int.emod_eq_of_lt (by omega) (by omega), ← UInt8.toNat_toUInt64]; exact .u64 _⟩
  · rename_i x; exact ⟨_, _, hr.u32_inv, by have h1 := x.toNat_lt; rw [wrap_u64, Int.emod_eq_of_lt (by omega) (by omega), ← UInt32.toNat_toUInt64]; exact .u64 _⟩
  · exact ⟨_, _, hr.u64_inv, by have := wrap_n64 ‹UInt64›; unfold n64 at this; rw [this]; exact .u64 _⟩
  · exact ⟨_, _, hr.i64_inv, by rw [wrap_u64, ← ofI64_toNat]; exact .u64 _⟩
  · rename_i x; exact ⟨_, _, hr.u8_inv, by have h1 := x.toNat_lt; rw [wrap_in ⟨by omega, by omega⟩]; exact .i64 _⟩
  · rename_i x; exact ⟨_, _, hr.u32_inv, by have h1 := x.toNat_lt; rw [wrap_in ⟨by omega, by omega⟩]; exact .i64 _⟩
theorem run_conv_int {kd kk : IntKind} {nn : Int} (hs : P.underlying t = some dd) (hd : P.underlying t2 = some (.int kd)) (w : World) : (convert t t2 (.int kk nn)).run P w = .ok (.int kd (kd.wrap nn)) w := by
  unfold convert
  simp only [Sem.run_bind, run_underlying hs, run_underlying hd, Result.andThen_ok]
  cases dd <;> rfl
theorem op_conv {kd : IntKind} (hs : P.underlying t = some dd) (hd : P.underlying t2 = some (.int kd)) (hx : aev T x = some u) (hv : convTo kd u = some v) : OpSem P T H ⟨d, .convert t t2 x, ty, ps, af, gd⟩ nm wr v [] :=
  .quiet fun E a w h => by
    obtain ⟨kk, nn, e1, e2⟩ := convTo_num hv (h x mem1 _ hx)
    exact ⟨_, by simp [execOp, e1, run_conv_int hs hd], e2⟩
theorem op_convI {kd : IntKind} {j : Int} (hs : P.underlying t = some dd) (hd : P.underlying t2 = some (.int .i64)) (hx : aev T x = some (.i64 j)) (hj : InI j) : OpSem P T H ⟨d, .convert t t2 x, ty, ps, af, gd⟩ nm wr (.i64 j) [] :=
  .quiet fun E a w h => by
    have e := (h x mem1 _ hx).i64_inv
    exact ⟨.int .i64 j, by simp [execOp, e, run_conv_int hs hd, wrap_in hj], .i64 _⟩
theorem op_conv64I {q : UInt64} (hs : P.underlying t = some dd) (hd : P.underlying t2 = some (.int .i64)) (hx : aev T x = some (.u64 q)) (hj : q.toNat ≤ 9223372036854775807) : OpSem P T H ⟨d, .convert t t2 x, ty, ps, af, gd⟩ nm wr (.i64 (q.toNat : Int)) [] :=
  .quiet fun E a w h => by
    have e := (h x mem1 _ hx).u64_inv
    exact ⟨.int .i64 (q.toNat : Int), by simp [execOp, e, run_conv_int hs hd, wrap_in (show InI (q.toNat : Int) from ⟨by omega, by omega⟩)], .i64 _⟩
theorem op_conv_str {s : List UInt8} (hs : P.underlying t = some dd) (hd : P.underlying t2 = some .string) (hx : aev T x = some (.str s)) : OpSem P T H ⟨d, .convert t t2 x, ty, ps, af, gd⟩ nm wr (.str s) [] :=
  .quiet fun E a w h => by
    have e := (h x mem1 _ hx).str_inv
    refine ⟨.string ⟨s.toArray⟩, ?_, .str _⟩
    have : (convert t t2 (.string ⟨s.toArray⟩)).run P w = .ok (.string ⟨s.toArray⟩) w := by
      unfold convert
      simp only [Sem.run_bind, run_underlying hs, run_underlying hd, Result.andThen_ok]
      cases dd <;> rfl
    simp [execOp, e, this]
/-- string(bytes). -/
theorem op_bytes_str {l : List UInt8} (hs : P.underlying t = some (.slice e)) (he : P.underlying e = some (.int .u8)) (hd : P.underlying t2 = some .string) (hx : aev T x = some (.sl b o n 1)) (hk : H b = some k) (hc : k.c = .aggB l) (hlen : o + n ≤ l.length) :
    OpSem P T H ⟨d, .convert t t2 x, ty, ps, af, gd⟩ nm wr (.str ((l.drop o).take n)) [] :=
  .reads fun E S a w h hR => by
    have hn : ((l.drop o).take n).length = n := by simp; omega
    obtain ⟨l', s', h3, h4⟩ := hR.blk b k hk
    have hcell : ∀ i, i < l.length → w.cell? ⟨l', i, none⟩ = some (.int .u8 ((l.getD i 0).toNat : Int)) := fun i hi => by
      obtain ⟨_, y, h5, h6⟩ := h4.cell (i := i) (x := .u8 (l.getD i 0)) (by rw [hc]; exact map_nth hi)
      rw [h5, h6.u8_inv]
    rcases (h x mem1 _ hx).sl_inv with ⟨lc, s, c, g1, g2, g3, g4, g5⟩ | ⟨ad, h0, g5⟩
    · rw [g1] at h3; injection h3 with h3; injection h3 with e1 _; subst e1
      have := run_convert_bytes_back (P := P) w t t2 e ⟨lc, o, none⟩ c ((l.drop o).take n) hs he hd (fun j hj => by
        have hj' : j < n := by rw [hn] at hj; exact hj
        rw [add_at, hcell _ (by omega)]
        have : l[o + j]? = some (((l.drop o).take n)[j]) := by
          rw [← List.getElem?_eq_getElem hj, List.getElem?_take, if_pos hj', List.getElem?_drop]
        rw [List.getD_eq_getElem?_getD, this]; rfl)
      rw [hn] at this
      exact ⟨_, by simp [execOp, g5, this], .str _⟩
    · subst h0
      have := run_convert_bytes_back (P := P) w t t2 e ad 0 [] hs he hd (fun j hj => by cases hj)
      simp only [List.length_nil] at this
      refine ⟨_, by simp only [execOp, g5, Sem.run_bind, this]; rfl, ?_⟩
      rw [List.take_zero]; exact .str _
theorem op_nil_str (hs : P.underlying t = some (.slice e)) (he : P.underlying e = some (.int .u8)) (hd : P.underlying t2 = some .string) (hx : aev T x = some .nilsl) : OpSem P T H ⟨d, .convert t t2 x, ty, ps, af, gd⟩ nm wr (.str []) [] :=
  .quiet fun E a w h => by
    have e1 := (h x mem1 _ hx).nilsl_inv
    refine ⟨.string ⟨([] : List UInt8).toArray⟩, ?_, .str _⟩
    have : (convert t t2 (.slice none 0 0)).run P w = .ok (.string ⟨([] : List UInt8).toArray⟩) w := by
      unfold convert
      simp only [Sem.run_bind, run_underlying hs, run_underlying hd, Result.andThen_ok, run_underlying he]
      rfl
    simp [execOp, e1, this]
/-- []byte(string). -/
theorem op_str_bytes {s : List UInt8} (hs : P.underlying t = some .string) (hd : P.underlying t2 = some (.slice e)) (he : P.underlying e = some (.int .u8)) (hx : aev T x = some (.str s)) (hlen : s.length ≤ maxLen) :
    OpSem P T H ⟨d, .convert t t2 x, ty, ps, af, gd⟩ nm wr (.sl nm 0 s.length 1) [(nm, some ⟨.aggB s, e, true⟩)] :=
  .allocs fun E S a w h hR => by
    have e1 := (h x mem1 _ hx).str_inv
    have hr := run_bytes_of_string (P := P) w t t2 e ⟨s.toArray⟩ hs hd he
    have hsz : (⟨s.toArray⟩ : ByteArray).size = s.length := by simp [ByteArray.size]
    have hcap := grownCap_ge w s.length 0 e
    have hcap2 := grownCap_le_maxLen w s.length 0 e hlen
    rw [hsz] at hr
    have hrow : ∀ cap, (bytesRow (⟨s.toArray⟩ : ByteArray) cap).size = s.length + (cap - s.length) := fun cap => by simp [bytesRow, hsz]
    refine ⟨_, _, _, w.drew, by simp only [execOp, e1, Sem.run_bind, hr]; rfl, rfl, rfl, rfl, rfl, .sl _ _ _ _ _ _ _ (Emb.put_same _ _ _) hcap hcap2 (by rw [hrow]; omega), fun i hi h => by have := h.1; omega, ?_, fun i q hq => ?_⟩
    · rw [hrow]; simp [AV.list, AV.parts]
    · have hi : i < s.length := by have := (List.getElem?_eq_some_iff.1 hq).1; simpa [AV.list, AV.parts] using this
      have hq2 : q = .u8 (s.getD i 0) := by
        have := map_nth (f := AV.u8) (z := 0) hi
        simp only [AV.list, AV.parts, Option.getD_some] at hq
        rw [this] at hq; injection hq with hq; exact hq.symm
      subst hq2
      refine ⟨rfl, .int .u8 ((s.getD i 0).toNat : Int), ?_, .u8 _⟩
      simp only [bytesRow, Array.getElem?_append, Array.size_map]
      have hi2 : i < (⟨s.toArray⟩ : ByteArray).data.size := by simpa using hi
      rw [if_pos hi2, Array.getElem?_map, Array.getElem?_eq_getElem hi2]
      simp [List.getD_eq_getElem?_getD, hi]
/-! Strings. -/
theorem op_addS {s1 s2 : List UInt8} (hx : aev T x = some (.str s1)) (hy : aev T y = some (.str s2)) (h : s1.length + s2.length ≤ 9223372036854775807) : OpSem P T H ⟨d, .binOp .add t x y t', ty, ps, af, gd⟩ nm wr (.str (s1 ++ s2)) [] :=
  op_bin hx hy fun E y1 y2 w h1 h2 => by
    rw [h1.str_inv, h2.str_inv]
    have := run_string_add_sum (P := P) w ⟨s1.toArray⟩ ⟨s2.toArray⟩ (by simp [ByteArray.size]; omega)
    have e : (⟨s1.toArray⟩ ++ ⟨s2.toArray⟩ : ByteArray) = ⟨(s1 ++ s2).toArray⟩ := by apply ByteArray.ext; simp
    rw [e] at this
    exact ⟨_, by simp [eqGuard, binOp, this], .str _⟩
theorem bytes_list (s : List UInt8) : (⟨s.toArray⟩ : ByteArray).toList = s := by rw [ByteArray.toList_eq]
theorem op_eqS {op : BinOp} {s1 s2 : List UInt8} (hx : aev T x = some (.str s1)) (hy : aev T y = some (.str s2)) (hv : (match op with | .eql => some (AV.bool (s1 == s2)) | .neq => some (.bool (s1 != s2)) | _ => none) = some v) :
    OpSem P T H ⟨d, .binOp op t x y t', ty, ps, af, gd⟩ nm wr v [] :=
  op_bin hx hy fun E y1 y2 w h1 h2 => by
    rw [h1.str_inv, h2.str_inv]
    cases op <;> simp only [Option.some.injEq, reduceCtorEq] at hv <;> subst hv
    · exact ⟨.bool (s1 == s2), by simp [eqGuard, binOp, Op.stringOp, bytes_list], .bool _⟩
    · exact ⟨.bool (s1 != s2), by simp [eqGuard, binOp, Op.stringOp, bytes_list, bne], .bool _⟩
theorem op_minI {p q : Int} {ts : Array TypeId} (hx : aev T x = some (.i64 p)) (hy : aev T y = some (.i64 q)) : OpSem P T H ⟨d, .call { callee := .builtin .min, args := #[x, y], argTypes := ts }, ty, ps, af, gd⟩ nm wr (.i64 (min p q)) [] :=
  .quiet fun E a w h => by
    have e1 := (h x (by simp [Op.operands, Call.operands]) _ hx).i64_inv
    have e2 := (h y (by simp [Op.operands, Call.operands]) _ hy).i64_inv
    refine ⟨.int .i64 (min p q), ?_, .i64 _⟩
    have : (if q < p then q else p) = min p q := by simp only [Int.min_def]; split <;> split <;> omega
    simp [execOp, resolve, invoke, builtin, Builtin.min_, Builtin.min2, e1, e2, this]
theorem op_maxI {p q : Int} {ts : Array TypeId} (hx : aev T x = some (.i64 p)) (hy : aev T y = some (.i64 q)) : OpSem P T H ⟨d, .call { callee := .builtin .max, args := #[x, y], argTypes := ts }, ty, ps, af, gd⟩ nm wr (.i64 (max p q)) [] :=
  .quiet fun E a w h => by
    have e1 := (h x (by simp [Op.operands, Call.operands]) _ hx).i64_inv
    have e2 := (h y (by simp [Op.operands, Call.operands]) _ hy).i64_inv
    refine ⟨.int .i64 (max p q), ?_, .i64 _⟩
    have : (if p < q then q else p) = max p q := by simp only [Int.max_def]; split <;> split <;> omega
    simp [execOp, resolve, invoke, builtin, Builtin.max_, Builtin.max2, e1, e2, this]

/-! New slices. -/
def partsOk (T : Nat → Option AV) : List (Nat × Operand) → Nat → List AV → Prop
  | [], _, [] => True
  | (i, x) :: r, j, u :: us => i = j ∧ aev T x = some u ∧ u.one = true ∧ partsOk T r (j + 1) us
  | _, _, _ => False
theorem fill_one {T : Nat → Option AV} {E : Emb} {a : Act} : ∀ (l : List (Nat × Operand)) (j : Nat) (us : List AV) (cells : Array Value), partsOk T l j us → (∀ p ∈ l, ∀ u, aev T p.2 = some u → Rel E u (a.eval p.2)) → j + us.length ≤ cells.size →
    ∃ cells', Instr.fill (fun i => some (i * 1, 1)) cells (l.map fun p => (p.1, a.eval p.2)) = some cells' ∧ cells'.size = cells.size ∧ (∀ i, i < j → cells'[i]? = cells[i]?) ∧ ∀ (i : Nat) q, us[i]? = some q → q.one = true ∧ ∃ y, cells'[j + i]? = some y ∧ Rel E q y
  | [], j, [], cells, _, _, _ => ⟨cells, rfl, rfl, fun _ _ => rfl, fun i q hq => by simp at hq⟩
  | [], _, _ :: _, _, h, _, _ => h.elim
  | _ :: _, _, [], _, h, _, _ => h.elim
  | (i, x) :: r, j, u :: us, cells, h, hr, hsz => by
    obtain ⟨rfl, h1, h2, h3⟩ := h
    have hrel := hr (i, x) List.mem_cons_self u h1
    have hone := hrel.one h2
    have hcells : (a.eval x).cells = #[a.eval x] := by
      cases hq : a.eval x <;> first | rfl | (rw [hq] at hone; cases hone)
    simp at hsz
    obtain ⟨cells', g1, g2, g3, g4⟩ := fill_one r (i + 1) us (cells.setIfInBounds i (a.eval x)) h3 (fun p hp => hr p (List.mem_cons_of_mem _ hp)) (by simp; omega)
    refine ⟨cells', ?_, by simpa using g2, fun j hj => ?_, fun j q hq => ?_⟩
    · simp only [List.map_cons, Instr.fill, hcells]
      rw [if_neg (by simp; omega)]
      simpa using g1
    · rw [g3 j (by omega), Array.getElem?_setIfInBounds, if_neg (by omega)]
    · match j, hq with
      | 0, hq =>
        simp at hq; subst hq
        refine ⟨h2, a.eval x, ?_, hrel⟩
        rw [Nat.add_zero, g3 i (by omega), Array.getElem?_setIfInBounds, if_pos rfl, if_pos (by omega)]
      | j + 1, hq =>
        have := g4 j q (by simpa using hq)
        rwa [show i + 1 + j = i + (j + 1) by omega] at this
theorem op_buildSlice {us : List AV} {ie : TypeInfo} {zv : Value} {len : Nat} {parts : Array (Nat × Operand)} (hu : P.underlying t = some (.slice e)) (hie : P.info? e = some ie) (hz : ie.zero = some zv) (hsz : ie.size = 1) (hlen : us.length = len) (hpos : 0 < len) (hsm : len ≤ 65536)
    (hp : partsOk T parts.toList 0 us) (hc : c.list = us) : OpSem P T H ⟨d, .buildSlice t len parts, ty, ps, af, gd⟩ nm wr (.sl nm 0 len 1) [(nm, some ⟨c, e, true⟩)] :=
  .allocs fun E S a w h hR => by
    obtain ⟨cells', g1, g2, _, g4⟩ := fill_one (E := E) (a := a) parts.toList 0 us ((Array.range (len * ie.size)).map (zv.cells[· % zv.cells.size]!)) hp (fun p hp => h p.2 (by simp only [Op.operands]; simp; exact ⟨p.1, by simpa using hp⟩)) (by simp [hsz, hlen])
    have hf : Instr.fill (fun i => some (i * ie.size, ie.size)) ((Array.range (len * ie.size)).map (zv.cells[· % zv.cells.size]!)) (parts.map fun (i, x) => (i, a.eval x)).toList = some cells' := by
      rw [hsz] at g1 ⊢; rw [Array.toList_map]; exact g1
    have hr := run_buildSlice (P := P) w t e len _ cells' ie zv hu hie hz (by rw [hsz]; omega) (by rw [hsz]; omega) hf
    have hs' : cells'.size = len := by rw [g2]; simp [hsz]
    refine ⟨_, cells', (0, 0), w, by simp only [execOp, Sem.run_bind, hr]; rfl, rfl, rfl, rfl, rfl, .sl _ _ _ _ _ _ _ (Emb.put_same _ _ _) (Nat.le_refl _) (by unfold maxLen; omega) (by omega), fun i _ h => by have := h.2; simp at this, by rw [hc]; omega, fun i q hq => ?_⟩
    rw [hc] at hq
    have := g4 i q hq
    rwa [Nat.zero_add] at this
theorem op_buildSlice0 {ie : TypeInfo} (hu : P.underlying t = some (.slice e)) (hie : P.info? e = some ie) (hc : c.list = []) : OpSem P T H ⟨d, .buildSlice t 0 #[], ty, ps, af, gd⟩ nm wr (.sl nm 0 0 z) [(nm, some ⟨c, e, true⟩)] :=
  .allocs fun E S a w h hR => by
    have hr : (Instr.buildSlice t 0 #[]).run P w = .ok (.slice (some ⟨w.heap.size, 0, none⟩) 0 0) (w.alloc (.cells #[] e)) := by
      simp [Instr.buildSlice, run_underlying hu, sizeOf, typeInfo, hie, newRow, Instr.fill, Array.range_zero']
    exact ⟨_, #[], (0, 0), w, by simp only [execOp, Sem.run_bind]; rw [show (Array.map (fun x : Nat × Operand => (x.fst, a.eval x.snd)) #[]) = #[] by simp, hr]; rfl, rfl, rfl, rfl, rfl, .sl _ _ _ _ _ _ _ (Emb.put_same _ _ _) (Nat.le_refl _) (by unfold maxLen; omega) (by simp), fun i hi => by simp at hi, by rw [hc]; simp, fun i q hq => by rw [hc] at hq; simp at hq⟩
theorem op_makeSlice {ie : TypeInfo} {zv : Value} {jl jc : Int} (ht : P.underlying t = some (.slice e)) (hi : P.info? e = some ie) (hz : ie.zero = some zv) (hsz : ie.size = 1) (hby : ie.bytes ≤ 64) (hx : aev T x = some (.i64 jl)) (hy : aev T y = some (.i64 jc)) (hl : jl = (n : Int)) (hcc : jc = (n : Int)) (hn : n ≤ 1000000000)
    (hr0 : Rel (fun _ => none) u zv) (h1 : u.one = true) (hc : c.list = List.replicate n u) : OpSem P T H ⟨d, .makeSlice t x y, ty, ps, af, gd⟩ nm wr (.sl nm 0 n 1) [(nm, some ⟨c, e, true⟩)] :=
  .allocs fun E S a w h hR => by
    subst hl; subst hcc
    have e1 := (h x mem21 _ hx).i64_inv
    have e2 := (h y mem22 _ hy).i64_inv
    have hbb : (ie.bytes : Int) * (n : Int) ≤ 281474976710656 := by
      have : ((ie.bytes * n : Nat) : Int) ≤ ((64 * 1000000000 : Nat) : Int) := Int.ofNat_le.2 (Nat.mul_le_mul hby hn)
      rw [Int.natCast_mul] at this; omega
    have hr := run_make (P := P) w t e ie zv ht hi hz .i64 .i64 n n (by omega) (Int.le_refl _) hbb (by omega)
    simp only [Int.toNat_natCast, hsz, Nat.mul_one] at hr
    have hr' := hr0.mono (E' := E) (fun _ _ h => by cases h)
    have hone := hr0.one h1
    have hcells : zv.cells = #[zv] := by
      cases hq : zv <;> first | rfl | (rw [hq] at hone; cases hone)
    rw [hcells] at hr
    have htl := toList_madeCells_one zv n
    refine ⟨_, madeCells #[zv] n, (0, 0), w, by simp only [execOp, e1, e2, Sem.run_bind, hr]; rfl, rfl, rfl, rfl, rfl, .sl _ _ _ _ _ _ _ (Emb.put_same _ _ _) (Nat.le_refl _) (by unfold maxLen; omega) (by rw [size_madeCells]; omega), fun i _ h => by have := h.2; simp at this, by rw [hc, size_madeCells]; simp, fun i q hq => ?_⟩
    rw [hc, List.getElem?_replicate] at hq
    split at hq
    · rename_i hi; injection hq with hq; subst hq
      refine ⟨h1, zv, ?_, hr'⟩
      rw [← Array.getElem?_toList, htl, List.getElem?_replicate, if_pos hi]
    · cases hq
end
end Go.Proofs.YtaenhghihhhikaaDoor
