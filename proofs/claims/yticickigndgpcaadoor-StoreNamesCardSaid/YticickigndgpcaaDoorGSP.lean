/-
  Texts of this claim.
-/
import Derived.Lib.MakeNoZero
import Derived.Maps.Keyed
import Derived.Maps.RangeRun
import Derived.Test.YticickigndgpcaaDoorGSE
namespace Go.Proofs.YticickigndgpcaaDoor
open Go.RowKit
def mx32 (p q : UInt32) : UInt32 := if p.toNat < q.toNat then q else p
def mn32 (p q : UInt32) : UInt32 := if q.toNat < p.toNat then q else p
def mn64 (p q : UInt64) : UInt64 := if q.toNat < p.toNat then q else p
theorem mx32_nat (p q : UInt32) : (mx32 p q).toNat = max p.toNat q.toNat := by unfold mx32; split <;> omega
theorem mn32_nat (p q : UInt32) : (mn32 p q).toNat = min p.toNat q.toNat := by unfold mn32; split <;> omega
theorem mn64_nat (p q : UInt64) : (mn64 p q).toNat = min p.toNat q.toNat := by unfold mn64; split <;> omega
section
variable {P : Program} {T : Nat → Option AV} {H : Hp} {nm : Nat} {wr : Bool} {v u c c' : AV} {d : Option Tmp} {ty : TypeId} {ps : String} {af : Array Edge} {gd : Option (Nat × Bool)} {t t' t2 e : TypeId} {x y z : Operand} {b o n : Nat} {k : ABlk} {ts : Array TypeId}
theorem op_max32 {p q : UInt32} (hx : aev T x = some (.u32 p)) (hy : aev T y = some (.u32 q)) : OpSem P T H ⟨d, .call { callee := .builtin .max, args := #[x, y], argTypes := ts }, ty, ps, af, gd⟩ nm wr (.u32 (mx32 p q)) [] :=
  .quiet fun E a w h => by
    have e1 := (h x (by simp [Op.operands, Call.operands]) _ hx).u32_inv
    have e2 := (h y (by simp [Op.operands, Call.operands]) _ hy).u32_inv
    refine ⟨.int .u32 ((mx32 p q).toNat : Int), ?_, .u32 _⟩
    have : (if (p.toNat : Int) < q.toNat then (q.toNat : Int) else p.toNat) = ((mx32 p q).toNat : Int) := by unfold mx32; split <;> split <;> omega
    simp [execOp, resolve, invoke, builtin, Builtin.max_, Builtin.max2, e1, e2]; exact_mod_cast this
theorem op_min32 {p q : UInt32} (hx : aev T x = some (.u32 p)) (hy : aev T y = some (.u32 q)) : OpSem P T H ⟨d, .call { callee := .builtin .min, args := #[x, y], argTypes := ts }, ty, ps, af, gd⟩ nm wr (.u32 (mn32 p q)) [] :=
  .quiet fun E a w h => by
    have e1 := (h x (by simp [Op.operands, Call.operands]) _ hx).u32_inv
    have e2 := (h y (by simp [Op.operands, Call.operands]) _ hy).u32_inv
    refine ⟨.int .u32 ((mn32 p q).toNat : Int), ?_, .u32 _⟩
    have : (if (q.toNat : Int) < p.toNat then (q.toNat : Int) else p.toNat) = ((mn32 p q).toNat : Int) := by unfold mn32; split <;> split <;> omega
    simp [execOp, resolve, invoke, builtin, Builtin.min_, Builtin.min2, e1, e2]; exact_mod_cast this
theorem op_min64 {p q : UInt64} (hx : aev T x = some (.u64 p)) (hy : aev T y = some (.u64 q)) : OpSem P T H ⟨d, .call { callee := .builtin .min, args := #[x, y], argTypes := ts }, ty, ps, af, gd⟩ nm wr (.u64 (mn64 p q)) [] :=
  .quiet fun E a w h => by
    have e1 := (h x (by simp [Op.operands, Call.operands]) _ hx).u64_inv
    have e2 := (h y (by simp [Op.operands, Call.operands]) _ hy).u64_inv
    refine ⟨.int .u64 ((mn64 p q).toNat : Int), ?_, .u64 _⟩
    have : (if (q.toNat : Int) < p.toNat then (q.toNat : Int) else p.toNat) = ((mn64 p q).toNat : Int) := by unfold mn64; split <;> split <;> omega
    simp [execOp, resolve, invoke, builtin, Builtin.min_, Builtin.min2, e1, e2]; exact_mod_cast this
theorem op_min64x3 {p q r : UInt64} (hx : aev T x = some (.u64 p)) (hy : aev T y = some (.u64 q)) (hz : aev T z = some (.u64 r)) : OpSem P T H ⟨d, .call { callee := .builtin .min, args := #[x, y, z], argTypes := ts }, ty, ps, af, gd⟩ nm wr (.u64 (mn64 (mn64 p q) r)) [] :=
  .quiet fun E a w h => by
    have e1 := (h x (by simp [Op.operands, Call.operands]) _ hx).u64_inv
    have e2 := (h y (by simp [Op.operands, Call.operands]) _ hy).u64_inv
    have e3 := (h z (by simp [Op.operands, Call.operands]) _ hz).u64_inv
    refine ⟨.int .u64 ((mn64 (mn64 p q) r).toNat : Int), ?_, .u64 _⟩
    have h1 : (if (q.toNat : Int) < p.toNat then (q.toNat : Int) else p.toNat) = ((mn64 p q).toNat : Int) := by unfold mn64; split <;> split <;> omega
    have h2 : (if (r.toNat : Int) < ((mn64 p q).toNat : Int) then (r.toNat : Int) else ((mn64 p q).toNat : Int)) = ((mn64 (mn64 p q) r).toNat : Int) := by
      rw [mn64_nat (mn64 p q) r]; split <;> omega
    simp only [execOp, resolve, invoke, builtin, Builtin.min_, List.foldlM, Builtin.min2, e1, e2, e3, List.map_toArray, List.map_cons, List.map_nil, pure_bind, h1, h2]
    rfl
theorem op_minIx3 {p q r : Int} (hx : aev T x = some (.i64 p)) (hy : aev T y = some (.i64 q)) (hz : aev T z = some (.i64 r)) : OpSem P T H ⟨d, .call { callee := .builtin .min, args := #[x, y, z], argTypes := ts }, ty, ps, af, gd⟩ nm wr (.i64 (min (min p q) r)) [] :=
  .quiet fun E a w h => by
    have e1 := (h x (by simp [Op.operands, Call.operands]) _ hx).i64_inv
    have e2 := (h y (by simp [Op.operands, Call.operands]) _ hy).i64_inv
    have e3 := (h z (by simp [Op.operands, Call.operands]) _ hz).i64_inv
    refine ⟨.int .i64 (min (min p q) r), ?_, .i64 _⟩
    have h1 : (if q < p then q else p) = min p q := by simp only [Int.min_def]; split <;> split <;> omega
    have h2 : (if r < min p q then r else min p q) = min (min p q) r := by simp only [Int.min_def]; split <;> split <;> split <;> omega
    simp only [execOp, resolve, invoke, builtin, Builtin.min_, List.foldlM, Builtin.min2, e1, e2, e3, List.map_toArray, List.map_cons, List.map_nil, pure_bind, h1, h2]
    rfl
theorem op_cap_run {i : Int} (hx : aev T x = some u) (h : ∀ (E : Emb) (y : Value) (w : World), Rel E u y → (Builtin.cap_ #[t] ty #[y]).run P w = .ok (.int .i64 i) w) :
    OpSem P T H ⟨d, .call { callee := .builtin .cap, args := #[x], argTypes := #[t] }, ty, ps, af, gd⟩ nm wr (.i64 i) [] :=
  .quiet fun E a w hop => by
    have hr := hop x (by simp [Op.operands, Call.operands]) _ hx
    exact ⟨.int .i64 i, by simp [execOp, resolve, invoke, builtin, h E _ w hr], .i64 _⟩
theorem op_cap_nil (ht : P.underlying t = some (.slice e)) (hx : aev T x = some .nilsl) :
    OpSem P T H ⟨d, .call { callee := .builtin .cap, args := #[x], argTypes := #[t] }, ty, ps, af, gd⟩ nm wr (.i64 0) [] :=
  op_cap_run hx fun E y w hr => by rw [hr.nilsl_inv]; simp [Builtin.cap_, run_underlying ht, goInt]
theorem op_cap_slk {cp : Nat} (ht : P.underlying t = some (.slice e)) (hx : aev T x = some (.slk b o n cp true)) :
    OpSem P T H ⟨d, .call { callee := .builtin .cap, args := #[x], argTypes := #[t] }, ty, ps, af, gd⟩ nm wr (.i64 (cp : Int)) [] :=
  op_cap_run hx fun E y w hr => by
    obtain ⟨l, s, c', _, _, _, h, _, _, rfl⟩ := hr.slk_inv
    rw [h rfl]; simp [Builtin.cap_, run_underlying ht, goInt]
theorem op_len_slk {cp : Nat} {ex : Bool} (ht : P.underlying t = some (.slice e)) (hx : aev T x = some (.slk b o n cp ex)) :
    OpSem P T H ⟨d, .call { callee := .builtin .len, args := #[x], argTypes := #[t] }, ty, ps, af, gd⟩ nm wr (.i64 (n : Int)) [] :=
  op_len_run hx fun E y w hr => by
    obtain ⟨l, s, c', _, _, _, _, _, _, rfl⟩ := hr.slk_inv
    simp [Builtin.len_, run_underlying ht, goInt]
/-- A slice of a slice whose capacity is known. -/
theorem op_slice_slk {lo hi : Option Operand} {l h cp : Nat} {ex : Bool} (ht : P.underlying t = some (.slice e)) (hz : (P.info? e).map (·.size) = some 1) (hx : aev T x = some (.slk b o n cp ex)) (hl : bnd T 0 lo l) (hh : bnd T n hi h) (h1 : l ≤ h) (h2 : h ≤ cp) (h3 : l < cp) :
    OpSem P T H ⟨d, .slice t x lo hi none, ty, ps, af, gd⟩ nm wr (.slk b (o + l) (h - l) (cp - l) ex) [] :=
  .quiet fun E a w hop => by
    obtain ⟨lc, s, c, g1, g0, g2, gx, g3, g4, g5⟩ := (hop x (by simp [Op.operands]) _ hx).slk_inv
    have hb := run_sliceBounds_ok (P := P) (sl := true) (cap := c) (fun q hq u hu => hop q (mem_slice q hq) u hu) hl hh h1 (by omega) w
    have hc : ¬ c = l := by omega
    refine ⟨.slice (some ⟨lc, o + l, none⟩) (h - l) (c - l), ?_, .slk _ _ _ _ (c - l) lc s _ g1 (by omega) (by omega) (fun hh => by rw [gx hh]) (by omega) (by omega)⟩
    simp [execOp, g5, Instr.sliceAt, Instr.slice, run_underlying ht, hb, run_sizeOf_is hz, hc, add_at]
theorem slk_sl {b o n cp : Nat} {ex : Bool} (E : Emb) (y : Value) (h : Rel E (.slk b o n cp ex) y) : Rel E (.sl b o n 1) y := by
  obtain ⟨l, s, c', h1, h2, h3, _, h4, h5, rfl⟩ := h.slk_inv
  exact .sl _ _ _ _ _ _ _ h1 (by omega) h4 (by omega)
theorem slk_weak {b o n cp m : Nat} {ex : Bool} (hn : n ≤ m) (hm : m ≤ cp) (E : Emb) (y : Value) (h : Rel E (.slk b o n cp ex) y) : Rel E (.slk b o n m false) y := by
  obtain ⟨l, s, c', h1, h2, h3, _, h4, h5, rfl⟩ := h.slk_inv
  exact .slk _ _ _ _ _ _ _ _ h1 hn (by omega) (fun h => by cases h) h4 h5
theorem op_eqNilSl (ht : P.underlying t = some (.slice e)) (hx : aev T x = some .nilsl) : OpSem P T H ⟨d, .binOp .eql t x (.const (.slice none 0 0)) t', ty, ps, af, gd⟩ nm wr (.bool true) [] :=
  op_bin hx (show aev T (.const (.slice none 0 0)) = some .nilsl from rfl) fun E y1 y2 w h1 h2 => by
    rw [h1.nilsl_inv, h2.nilsl_inv]
    refine ⟨.bool true, ?_, .bool _⟩
    have e : (Op.equal t (.slice none 0 0) (.slice none 0 0)).run P w = .ok true w := by
      show (Op.equalIn (9999 + 1) t (.slice none 0 0) (.slice none 0 0)).run P w = .ok true w
      rw [Op.equalIn, Sem.run_bind, run_underlying ht, Result.andThen_ok]
      rfl
    have h3 : (eqGuard .eql t x (.const (.slice none 0 0)) (.slice none 0 0) (.slice none 0 0)).run P w = .ok () w := by cases x <;> rfl
    have h4 : (binOp .eql t (.slice none 0 0) (.slice none 0 0)).run P w = .ok (.bool true) w := by
      show ((Op.equal t (.slice none 0 0) (.slice none 0 0)) >>= fun r => pure (Value.bool r) : Sem Value).run P w = _
      rw [Sem.run_bind, e]; rfl
    rw [Sem.run_bind, h3]; exact h4
theorem op_eqSomeSl {cp : Nat} {ex : Bool} (ht : P.underlying t = some (.slice e)) (hx : aev T x = some (.slk b o n cp ex)) : OpSem P T H ⟨d, .binOp .eql t x (.const (.slice none 0 0)) t', ty, ps, af, gd⟩ nm wr (.bool false) [] :=
  op_bin hx (show aev T (.const (.slice none 0 0)) = some .nilsl from rfl) fun E y1 y2 w h1 h2 => by
    rw [h2.nilsl_inv]
    obtain ⟨l, s, c', _, _, _, _, _, _, rfl⟩ := h1.slk_inv
    refine ⟨.bool false, ?_, .bool _⟩
    have e : (Op.equal t (.slice (some ⟨l, o, none⟩) n c') (.slice none 0 0)).run P w = .ok false w := by
      show (Op.equalIn (9999 + 1) t (.slice (some ⟨l, o, none⟩) n c') (.slice none 0 0)).run P w = .ok false w
      rw [Op.equalIn, Sem.run_bind, run_underlying ht, Result.andThen_ok]
      rfl
    have h3 : (eqGuard .eql t x (.const (.slice none 0 0)) (.slice (some ⟨l, o, none⟩) n c') (.slice none 0 0)).run P w = .ok () w := by cases x <;> rfl
    have h4 : (binOp .eql t (.slice (some ⟨l, o, none⟩) n c') (.slice none 0 0)).run P w = .ok (.bool false) w := by
      show ((Op.equal t (.slice (some ⟨l, o, none⟩) n c') (.slice none 0 0)) >>= fun r => pure (Value.bool r) : Sem Value).run P w = _
      rw [Sem.run_bind, e]; rfl
    rw [Sem.run_bind, h3]; exact h4
/-- make([]byte, n, cp). -/
theorem op_makeCap {zv : Value} {jl jc : Int} {cp : Nat} (ht : P.underlying t = some (.slice e)) (hi : Inf P e 1 zv) (hx : aev T x = some (.i64 jl)) (hy : aev T y = some (.i64 jc)) (hl : jl = (n : Int)) (hcc : jc = (cp : Int)) (hn : n ≤ cp) (hcp : cp ≤ 1000000000)
    (hr0 : Rel Emb.nil u zv) (h1 : u.one = true) (hc : c.list = List.replicate cp u) (hm0 : c.isMap = false := by first | rfl | assumption | exact AV.map_parts (by assumption)) : OpSem P T H ⟨d, .makeSlice t x y, ty, ps, af, gd⟩ nm wr (.slk nm 0 n cp true) [(nm, some ⟨c, e, true⟩)] := by
  obtain ⟨ie, hi, hz, hsz, hby, _⟩ := hi
  exact .allocs fun E S a w h hR => by
    subst hl; subst hcc
    have e1 := (h x mem21 _ hx).i64_inv
    have e2 := (h y mem22 _ hy).i64_inv
    have hbb : (ie.bytes : Int) * (cp : Int) ≤ 281474976710656 := by
      have : ((ie.bytes * cp : Nat) : Int) ≤ ((64 * 1000000000 : Nat) : Int) := Int.ofNat_le.2 (Nat.mul_le_mul hby hcp)
      rw [Int.natCast_mul] at this; omega
    have hr := run_make (P := P) w t e ie zv ht hi hz .i64 .i64 n cp (by omega) (by omega) hbb (by omega)
    simp only [Int.toNat_natCast, hsz, Nat.mul_one] at hr
    have hr' := hr0.mono (Emb.nil_le E)
    have hone := hr0.one h1
    have hcells : zv.cells = #[zv] := by
      cases hq : zv <;> first | rfl | (rw [hq] at hone; cases hone)
    rw [hcells] at hr
    have htl := toList_madeCells_one zv cp
    refine ⟨_, madeCells #[zv] cp, (0, 0), w, by simp only [execOp, e1, e2, Sem.run_bind, hr]; rfl, rfl, rfl, rfl, rfl, (by first | exact DrOk.refl _ | exact (DrOk.refl _).drew | exact (DrOk.refl _).drew.drew), .slk _ _ _ _ _ _ _ _ (Emb.put_same _ _ _) hn (Nat.le_refl _) (fun _ => rfl) (by unfold maxLen; omega) (by rw [size_madeCells]; omega), FzOk.zero _ _, by rw [hc, size_madeCells]; simp, fun i q hq => ?_⟩
    rw [hc, List.getElem?_replicate] at hq
    split at hq
    · rename_i hi; injection hq with hq; subst hq
      refine ⟨h1, zv, ?_, hr'⟩
      rw [← Array.getElem?_toList, htl, List.getElem?_replicate, if_pos hi]
    · cases hq
end
end Go.Proofs.YticickigndgpcaaDoor
namespace Go.Proofs.YticickigndgpcaaDoor
open Go.RowKit
/-- What an operation does, in one of several ways. -/
def OpSemX (P : Program) (T : Nat → Option AV) (H : Hp) (o : Oper) (nm : Nat) (wr : Bool) (ι : Type) (v : ι → AV) (U : ι → List (Nat × Option ABlk)) : Prop :=
  ∀ (E : Emb) (S : Nat → Prop) (n0 : Nat) (H2 : Hp) (a : Act) (w : World),
    (∀ k, n0 ≤ k → S k) → n0 ≤ w.heap.size → 1000 ≤ nm → (∀ g, g < 400 → ∃ s, E g = some (g, s)) → (wr = true → H2 = H) → (∀ b k, H b = some k → H2 b = some k) →
    (∀ x ∈ o.op.operands, ∀ u, aev T x = some u → Rel E u (a.eval x)) → RH E S H2 w → (∀ b, nm ≤ b → b < nm + 8 → E b = none) →
    ∀ (K : Act → World → Prop) (Q : Exit → Act → World → Prop),
      (∀ i y w' E', (∀ b, (lk (U i) b = none ∨ ¬ (nm ≤ b ∧ b < nm + 8)) → E' b = E b) → Emb.dx S E E' → Rel E' (v i) y → RH E' S (upd (U i) H2) w' → Fr S w w' → K (a.put o.dst y) w') → o.wp P a w K Q
section
variable {P : Program} {nt : Nat} {st : St}
theorem evl_stepX {ops rest : List Oper} {post : St → Prop} {o : Oper} {ι : Type} {v : ι → AV} {U : ι → List (Nat × Option ABlk)} {wr : Bool} {d : Tmp}
    (hw : ∀ (E : Emb) (S : Nat → Prop) (n0 : Nat) (a : Act) (w : World), RS E S n0 nt st a w → Region.wanted o (yielded ops.toArray a.tmps) = true)
    (hd : o.dst = some d ∧ d < nt)
    (h : OpSemX P (lk st.T) (hget st.H) o st.nx wr ι v U) (hr : ∀ i, EvL P nt ops rest ⟨(d, v i) :: st.T, U i ++ st.H, st.nx + 8⟩ post) : EvL P nt ops (o :: rest) st post := by
  intro E S n0 a w Q hn hR hQ
  unfold wpList
  rw [if_pos (hw E S n0 a w hR)]
  refine .inl ?_
  refine h E S n0 (hget st.H) a w hR.hS hR.h0 hn hR.gl (fun _ => rfl) (fun _ _ h => h) (fun x _ u hu => hR.aev x u hu) hR.rh (fun b hb _ => hR.fr b hb) _ _ fun i y w' E' hE hX hv hH hF => ?_
  have hle : ∀ b p, E b = some p → E' b = some p := fun b p hp => by
    rw [hE b (.inr (fun hb => by rw [hR.fr b hb.1] at hp; cases hp))]; exact hp
  have base : RS E' S n0 nt ⟨st.T, U i ++ st.H, st.nx + 8⟩ a w' := by
    refine ⟨fun t u ht => (hR.rt t u ht).mono ⟨hle, hX.dle⟩, hR.nt, hR.df, by rw [← upd_hget]; exact hH, fun b hb => ?_, fun g hg => (hR.gl g hg).imp fun s hs => hle _ _ hs, hR.hS, Nat.le_trans hR.h0 hF.size⟩
    have hb' : st.nx + 8 ≤ b := hb
    rw [hE b (.inr (by omega))]; exact hR.fr b (by omega)
  have hR' : RS E' S n0 nt ⟨(d, v i) :: st.T, U i ++ st.H, st.nx + 8⟩ (a.put o.dst y) w' := by
    rw [hd.1]; exact base.put hd.2 hv
  have hlow : ∀ b, b < 1000 → E' b = E b := fun b hb => hE b (.inr (by omega))
  exact hr i E' S n0 (a.put o.dst y) w' Q (Nat.le_trans hn (Nat.le_add_right _ _)) hR' fun st' E'' a'' w'' h1 h2 h3 h4 h5 => hQ st' E'' a'' w'' h1 h2 (Emb.kp.trans ⟨hlow, hX⟩ h3) h4 (hF.trans h5)
variable {ops rest : List Oper} {post : St → Prop} {op : Op} {d : Tmp} {ty : TypeId} {ps : String} {af : Array Edge} {gd : Option (Nat × Bool)}
theorem EvL.ax {ι : Type} {v : ι → AV} {U : ι → List (Nat × Option ABlk)} (h : OpSemX P (lk st.T) (hget st.H) ⟨some d, op, ty, ps, af, gd⟩ st.nx true ι v U) (hg : Wants ops st.T gd) (hd : Nat.blt d nt = true) (hr : ∀ i, EvL P nt ops rest ⟨(d, v i) :: st.T, U i ++ st.H, st.nx + 8⟩ post) :
    EvL P nt ops (⟨some d, op, ty, ps, af, gd⟩ :: rest) st post :=
  evl_stepX (Wants.ok hg) ⟨rfl, blt_true hd⟩ h hr
end
/-- The places where an appended slice of ints may begin, and its block's cells. -/
def AppX (L : List Int) (o n : Nat) (cs : List Int) : Type := { p : Nat × List Int // p.2.length = p.1 + (n + cs.length) ∧ p.2.drop p.1 = L.drop o ++ cs }
section
variable {P : Program} {T : Nat → Option AV} {H : Hp} {nm : Nat} {wr : Bool} {d : Option Tmp} {ty : TypeId} {ps : String} {af : Array Edge} {gd : Option (Nat × Bool)} {t t2 e : TypeId} {x y : Operand} {b o n m : Nat} {L : List Int} {d2 : TypeDesc} {zv : Value}
set_option maxHeartbeats 1000000 in
theorem op_appendX {cs : List Int} (ht : P.underlying t = some (.slice e)) (ht2 : P.underlying t2 = some d2) (hd2 : notInt d2) (hinf : Inf P e 1 zv)
    (hx : aev T x = some (.sl b o n 1)) (hk : H b = some ⟨.aggI L, e, true⟩) (hn : L.length = o + n) (hs : Srcs P T H y 1 cs.length (cs.map .i64)) (hc0 : 0 < cs.length) (hlim : n + cs.length ≤ 10000000000) :
    OpSemX P T H ⟨d, .call { callee := .builtin .append, args := #[x, y], argTypes := #[t, t2] }, ty, ps, af, gd⟩ nm wr (AppX L o n cs) (fun p => .sl nm p.1.1 (n + cs.length) 1) (fun p => [(nm, some ⟨.aggI p.1.2, e, true⟩), (b, none)]) := by
  intro E S n0 H2 a w hS hn0 _ _ hwr hle hop hR hf K Q hK
  obtain ⟨ie, hi, hz, hsz, hby, hzs⟩ := hinf
  have hRl := hR.less hle
  replace hk := hle b _ hk
  have hfit : (n + cs.length) * ie.bytes ≤ 140737488355328 := by
    have := Nat.mul_le_mul hlim hby; omega
  have hrx := hop x (by simp [Op.operands, Call.operands]) _ hx
  obtain ⟨_, hsr⟩ := hs
  obtain ⟨news, s1, s2, s3⟩ := hsr E S a w (fun u hu => hop y (by simp [Op.operands, Call.operands]) u hu) hRl
  rw [Nat.mul_one] at s1
  obtain ⟨l', s', h3, arr, tq, fz, g1, g2, g3, g4, g5⟩ := hR.blkR hk rfl
  have g4' : L.length ≤ s' := by have : (L.map AV.i64).length ≤ s' := g4; simpa using this
  have hone : ∀ q ∈ news, q.oneCell' = true := fun q hq => by
    obtain ⟨i, hi, rfl⟩ := List.mem_iff_getElem.1 hq
    obtain ⟨p1, yv, p2, p3⟩ := s2 i (.i64 cs[i]) (by simp [show i < cs.length by omega])
    rw [List.getElem?_eq_getElem hi] at p2; injection p2 with p2
    rw [p2]; exact p3.one p1
  have hEn := hf nm (Nat.le_refl _) (by omega)
  have hput : ∀ (k : ABlk) q p, (∀ r, (lk [(nm, some k), (b, none)] r = none ∨ ¬ (nm ≤ r ∧ r < nm + 8)) → (E.put nm (q, p)) r = E r) := fun k q p r hr => by
    refine Emb.put_other _ _ (fun e => ?_)
    subst e
    rcases hr with hr | hr
    · simp [lk] at hr
    · exact hr ⟨Nat.le_refl _, by omega⟩
  have hrunop : ∀ vv ww, (Builtin.append_ #[t, t2] ty #[a.eval x, a.eval y]).run P w = .ok vv ww → (execOp a.eval ⟨d, .call { callee := .builtin .append, args := #[x, y], argTypes := #[t, t2] }, ty, ps, af, gd⟩).run P w = .ok (.value vv) ww := fun vv ww hh => by
    simp [execOp, resolve, invoke, builtin, hh]
  have hmz : news.take cs.length = news := List.take_of_length_le (by omega)
  have hS' : S l' := hR.own b _ l' s' hk rfl h3
  have fin : (∃ (p : AppX L o n cs) (y' : Value) (w' : World) (E' : Emb), (Builtin.append_ #[t, t2] ty #[a.eval x, a.eval y]).run P w = .ok y' w' ∧
      (∀ r, (lk [(nm, some (⟨.aggI p.1.2, e, true⟩ : ABlk)), (b, none)] r = none ∨ ¬ (nm ≤ r ∧ r < nm + 8)) → E' r = E r) ∧ Rel E' (.sl nm p.1.1 (n + cs.length) 1) y' ∧ RH E' S (upd [(nm, some ⟨.aggI p.1.2, e, true⟩), (b, none)] H2) w' ∧ Fr S w w' ∧ Emb.dx S E E') → Oper.wp P ⟨d, .call { callee := .builtin .append, args := #[x, y], argTypes := #[t, t2] }, ty, ps, af, gd⟩ a w K Q := fun hh => by
    obtain ⟨p, y', w', E', r1, r2, r3, r4, r5, r6⟩ := hh
    unfold Oper.wp
    rw [hrunop _ _ r1]
    exact hK p y' w' E' r2 r6 r3 r4 r5
  refine fin ?_
  have pin : (⟨o, L ++ cs⟩ : Nat × List Int).2.length = (⟨o, L ++ cs⟩ : Nat × List Int).1 + (n + cs.length) ∧ (⟨o, L ++ cs⟩ : Nat × List Int).2.drop (⟨o, L ++ cs⟩ : Nat × List Int).1 = L.drop o ++ cs := ⟨by simp; omega, by simp [List.drop_append_of_le_length (show o ≤ L.length by omega)]⟩
  have pgr : (⟨0, L.drop o ++ cs⟩ : Nat × List Int).2.length = (⟨0, L.drop o ++ cs⟩ : Nat × List Int).1 + (n + cs.length) ∧ (⟨0, L.drop o ++ cs⟩ : Nat × List Int).2.drop (⟨0, L.drop o ++ cs⟩ : Nat × List Int).1 = L.drop o ++ cs := ⟨by simp; omega, rfl⟩
  -- the block is left in place
  have inplace : ∀ (cp : Nat), a.eval x = .slice (some ⟨l', o, none⟩) n cp → n + cs.length ≤ cp → cp ≤ maxLen → o + cp ≤ s' → ∃ (p : AppX L o n cs) (y' : Value) (w' : World) (E' : Emb), (Builtin.append_ #[t, t2] ty #[a.eval x, a.eval y]).run P w = .ok y' w' ∧
      (∀ r, (lk [(nm, some (⟨.aggI p.1.2, e, true⟩ : ABlk)), (b, none)] r = none ∨ ¬ (nm ≤ r ∧ r < nm + 8)) → E' r = E r) ∧ Rel E' (.sl nm p.1.1 (n + cs.length) 1) y' ∧ RH E' S (upd [(nm, some ⟨.aggI p.1.2, e, true⟩), (b, none)] H2) w' ∧ Fr S w w' ∧ Emb.dx S E E' := by
    intro cp hax hroom hcpm hfits
    obtain ⟨arr', hr, hsz', hv⟩ := run_storeCells_gen P l' (o + n) tq fz news 0 arr w g1 (by rw [g2]; exact g3.1.w rfl) (by omega) hone
    have hst : (storeCells ((⟨l', o, none⟩ : Addr).add (n * ie.size)) news).run P w = .ok () (w.setRow l' arr') := by rw [add_at, hsz, Nat.mul_one]; exact hr
    have h4 := s3 w rfl
    have hff := h4.2 cs.length (Nat.le_refl _)
    rw [Nat.mul_one, hmz] at hff
    have hrun := run_app_room (P := P) (ty := ty) w _ ht ht2 hd2 hi ⟨l', o, none⟩ n cp cs.length (a.eval y) news h4.1 (by rw [hsz]; exact hff) hroom hst
    refine ⟨⟨⟨o, L ++ cs⟩, pin⟩, _, _, E.put nm (l', s'), by rw [hax]; exact hrun, hput _ _ _, (.sl _ _ _ _ l' s' cp (Emb.put_same _ _ _) hroom hcpm (by show o + cp * 1 ≤ s'; omega)), ?_, Fr.setRow w l' arr' hS', Emb.dx_refl _ _⟩
    have hw := hR.write hk rfl h3 arr arr' tq fz g1 hsz' (.aggI (L ++ cs)) (by simp [AV.list, AV.parts]; omega) (fun i q hq => by
      have hq' : ((L ++ cs).map AV.i64)[i]? = some q := hq
      rw [hv]
      by_cases hi : i < L.length
      · rw [List.map_append, List.getElem?_append_left (by simpa using hi)] at hq'
        rw [if_neg (by omega)]
        exact g5 i q hq'
      · rw [List.map_append, List.getElem?_append_right (by simp; omega)] at hq'
        simp only [List.length_map] at hq'
        have hi2 : i - L.length < (cs.map AV.i64).length := (List.getElem?_eq_some_iff.1 hq').1
        rw [List.length_map] at hi2
        rw [if_pos (by omega)]
        have := s2 _ q hq'
        rw [show i - L.length = i - (o + n + 0) by omega] at this
        exact ⟨AV.cell_of this.1, this.2⟩)
    exact RH.move (nm := nm) (kk := ⟨.aggI (L ++ cs), e, true⟩) hw h3 hEn
  have grow : ∀ (ad : Option Addr) (cp : Nat), a.eval x = .slice ad n cp → cp < n + cs.length → (∀ (j : Nat) v, ((arr.toList.drop o).take n)[j]? = some v → ∃ q, ad = some q ∧ w.cell? (q.add j) = some v) → (ad = none → n = 0) → ∃ (p : AppX L o n cs) (y' : Value) (w' : World) (E' : Emb), (Builtin.append_ #[t, t2] ty #[a.eval x, a.eval y]).run P w = .ok y' w' ∧
      (∀ r, (lk [(nm, some (⟨.aggI p.1.2, e, true⟩ : ABlk)), (b, none)] r = none ∨ ¬ (nm ≤ r ∧ r < nm + 8)) → E' r = E r) ∧ Rel E' (.sl nm p.1.1 (n + cs.length) 1) y' ∧ RH E' S (upd [(nm, some ⟨.aggI p.1.2, e, true⟩), (b, none)] H2) w' ∧ Fr S w w' ∧ Emb.dx S E E' := by
    intro ad cp hax hroom hcell hnone
    have h4 := s3 w rfl
    have h5 := (s3 w.drew rfl).2 cs.length (Nat.le_refl _)
    rw [Nat.mul_one, hmz] at h5
    have hol : ((arr.toList.drop o).take n).length = n := by simp; omega
    have hfo : (Builtin.firstCells ie.size n (a.eval x)).run P w.drew = .ok ((arr.toList.drop o).take n).toArray w.drew := by
      rw [hax]
      cases ad with
      | some ad =>
        refine run_firstCells_some (P := P) w.drew ie.size n ad n cp ((arr.toList.drop o).take n) (by rw [hol, hsz, Nat.mul_one]) fun j v hj => ?_
        obtain ⟨q, hq, hc⟩ := hcell j v hj
        injection hq with hq; subst hq; exact hc
      | none => rw [hnone rfl]; simp [Builtin.firstCells]
    have hrun := run_app_grow (P := P) (ty := ty) w ht ht2 hd2 hi hz (a.eval x) ad hax cs.length (a.eval y) ((arr.toList.drop o).take n) news h4.1 (by rw [hsz]; exact h5) hfo hroom (by omega) hfit
    have hcap := grownCap_ge w (n + cs.length) cp e
    have hcap2 := grownCap_le_maxLen w (n + cs.length) cp e (by unfold maxLen; omega)
    have hR' : RH E S (upd [(b, none)] H2) w.drew := (hR.less fun q kq hq => by
      rw [upd_one] at hq
      split at hq
      · cases hq
      · exact hq).drew
    have hsize : (((arr.toList.drop o).take n).toArray ++ news.toArray ++ Builtin.zeroCells zv.cells (grownCap w (n + cs.length) cp e - (n + cs.length))).size = grownCap w (n + cs.length) cp e := by
      simp only [Array.size_append, List.size_toArray, hol, s1, size_zeroCells, hzs]
      omega
    have hal := hR'.allocC (b := nm) (hS _ hn0) hEn ⟨.aggI (L.drop o ++ cs), e, true⟩ (((arr.toList.drop o).take n).toArray ++ news.toArray ++ Builtin.zeroCells zv.cells (grownCap w (n + cs.length) cp e - (n + cs.length))) (0, 0) (FzOk.zero _ _)
      (by rw [hsize]; show ((L.drop o ++ cs).map AV.i64).length ≤ _; simp; omega) (fun i q hq => by
        have hq' : ((L.drop o ++ cs).map AV.i64)[i]? = some q := hq
        by_cases hi : i < n
        · rw [List.map_append, List.getElem?_append_left (by simp; omega), List.map_drop, List.getElem?_drop] at hq'
          obtain ⟨p1, yv, p2, p3⟩ := g5 (o + i) q hq'
          refine ⟨p1, yv, ?_, p3⟩
          rw [Array.append_assoc, Array.getElem?_append_left (by simp; omega)]
          simp only [List.getElem?_toArray, List.getElem?_take]
          rw [if_pos hi]; simpa using p2
        · rw [List.map_append, List.getElem?_append_right (by simp; omega)] at hq'
          simp only [List.length_map, List.length_drop] at hq'
          obtain ⟨p1, yv, p2, p3⟩ := s2 _ q hq'
          have hi2 : i - (L.length - o) < (cs.map AV.i64).length := (List.getElem?_eq_some_iff.1 hq').1
          rw [List.length_map] at hi2
          refine ⟨AV.cell_of p1, yv, ?_, p3⟩
          rw [Array.append_assoc, Array.getElem?_append_right (by simp; omega), Array.getElem?_append_left (by simp; omega)]
          simp only [List.size_toArray, hol, List.getElem?_toArray]
          rwa [show i - n = i - (L.length - o) by omega])
    have e2 : upd [(nm, some (⟨.aggI (L.drop o ++ cs), e, true⟩ : ABlk)), (b, none)] H2 = upd [(nm, some ⟨.aggI (L.drop o ++ cs), e, true⟩)] (upd [(b, none)] H2) := by
      funext r; simp only [upd, lk]; cases Nat.beq nm r <;> rfl
    replace hal := hal rfl
    rw [← e2] at hal
    refine ⟨⟨⟨0, L.drop o ++ cs⟩, pgr⟩, _, _, _, hrun, ?_, ?_, hal, (Fr.refl S w).drew.trans (Fr.alloc S w.drew _), Emb.dx_refl _ _⟩
    · exact hput _ _ _
    · exact .sl _ _ _ _ _ _ _ (Emb.put_same _ _ _) hcap hcap2 (by rw [hsize]; show 0 + _ * 1 ≤ _; omega)
  rcases hrx.sl_inv with ⟨lc, s, cp, q1, q2, q3, q4, q5⟩ | ⟨ad, hz0, q5⟩
  · rw [q1] at h3; injection h3 with h3; injection h3 with e1 e2; subst e1; subst e2
    by_cases hroom : n + cs.length ≤ cp
    · exact inplace cp q5 hroom q3 (by omega)
    · refine grow _ cp q5 (by omega) (fun j v hj => ⟨_, rfl, ?_⟩) (fun h => by cases h)
      rw [add_at, cell_of_row w lc (o + j) arr tq fz g1]
      rw [List.getElem?_take] at hj
      split at hj
      · simpa using hj
      · cases hj
  · subst hz0
    exact grow ad 0 q5 (by omega) (fun j v hj => by simp at hj) (fun _ => rfl)
end
end Go.Proofs.YticickigndgpcaaDoor
namespace Go.Proofs.YticickigndgpcaaDoor
open Go.RowKit
theorem Rel.dsl_inv {E : Emb} {y : Value} {l : List (List UInt8)} (h : Rel E (.dsl l) y) : (∃ L a o c s, E.d a = some (L, s) ∧ (∀ (i : Nat) x, l[i]? = some x → L (o + i) = some (.string ⟨x.toArray⟩)) ∧ l.length ≤ c ∧ c ≤ maxLen ∧ o + c ≤ s ∧ y = .slice (some ⟨a, o, none⟩) l.length c) ∨ (∃ ad, l = [] ∧ y = .slice ad 0 0) := by
  cases h with
  | dsl _ L a o c s h h1 h2 h3 h4 => exact .inl ⟨L, a, o, c, s, h, h1, h2, h3, h4, rfl⟩
  | dsl0 ad => exact .inr ⟨ad, rfl, rfl⟩
  | agg _ _ _ h => cases h
theorem Rel.dptr_inv {E : Emb} {y : Value} {l : List (List UInt8)} (h : Rel E (.dptr l) y) : ∃ L a o s, E.d a = some (L, s) ∧ (∀ (i : Nat) x, l[i]? = some x → L (o + i) = some (.string ⟨x.toArray⟩)) ∧ 0 < l.length ∧ y = .pointer (some ⟨a, o, none⟩) := by
  cases h with
  | dptr _ L a o s h h1 h2 => exact ⟨L, a, o, s, h, h1, h2, rfl⟩
  | agg _ _ _ h => cases h
section
variable {P : Program} {T : Nat → Option AV} {H : Hp} {nm : Nat} {wr : Bool} {d : Option Tmp} {ty : TypeId} {ps : String} {af : Array Edge} {gd : Option (Nat × Bool)} {t e : TypeId} {x y : Operand} {i : Nat} {l : List (List UInt8)} {dd : TypeDesc}
theorem op_len_dsl (ht : P.underlying t = some (.slice e)) (hx : aev T x = some (.dsl l)) :
    OpSem P T H ⟨d, .call { callee := .builtin .len, args := #[x], argTypes := #[t] }, ty, ps, af, gd⟩ nm wr (.i64 (l.length : Int)) [] :=
  op_len_run hx fun E y w hr => by
    rcases hr.dsl_inv with ⟨L, a, o, c, s, _, _, _, _, _, rfl⟩ | ⟨ad, rfl, rfl⟩
    · simp [Builtin.len_, run_underlying ht, goInt]
    · simp [Builtin.len_, run_underlying ht, goInt]
theorem op_indexAddr_dsl {j : Int} (ht : P.underlying t = some (.slice e)) (hz : (P.info? e).map (·.size) = some 1) (hx : aev T x = some (.dsl l)) (hy : aev T y = some (.i64 j)) (hj : j = (i : Int)) (hlt : i < l.length) :
    OpSem P T H ⟨d, .indexAddr t x y, ty, ps, af, gd⟩ nm wr (.dptr (l.drop i)) [] :=
  .quiet fun E a w h => by
    subst hj
    have h2 := (h y mem22 _ hy).i64_inv
    rcases (h x mem21 _ hx).dsl_inv with ⟨L, q, o, c, s, h1, h3, _, _, _, h4⟩ | ⟨ad, rfl, _⟩
    · refine ⟨.pointer (some ⟨q, o + i, none⟩), ?_, .dptr _ L q (o + i) s h1 ?_ (by rw [List.length_drop]; omega)⟩
      · have hin : (0 : Int) ≤ (i : Int) ∧ (i : Int) < (l.length : Int) := by omega
        simp [execOp, h2, h4, Instr.indexAt, asIntOf, run_underlying ht, hin, run_sizeOf_is hz, add_at, hlt]
      · intro k v hk
        rw [List.getElem?_drop] at hk
        rw [Nat.add_assoc]; exact h3 _ _ hk
    · exact absurd hlt (by simp)
/-- A string of a place that lies still. -/
theorem op_load_dptr {v : List UInt8} (hu : P.underlying t = some dd) (hna : (match dd with | .struct _ | .array _ _ => true | _ => false) = false) (hx : aev T x = some (.dptr l)) (hv : l[0]? = some v) :
    OpSem P T H ⟨d, .load t x, ty, ps, af, gd⟩ nm wr (.str v) [] :=
  .reads fun E S a w h hR => by
    obtain ⟨L, q, o, s, h1, h2, h3, h4⟩ := (h x mem1 _ hx).dptr_inv
    obtain ⟨⟨arr, tq, fz, g1, _, g3⟩, _⟩ := hR.deep q L s h1
    have hL : L o = some (.string ⟨v.toArray⟩) := h2 0 v hv
    have hc : w.cell? ⟨q, o, none⟩ = some (.string ⟨v.toArray⟩) := (cell_of_row w q o arr tq fz g1).trans (g3 o _ hL)
    refine ⟨_, ?_, .str v⟩
    simp [execOp, h4, Instr.loadAt, Instr.sureAddr, loadVar, run_isAgg_no hu hna, hc]
theorem op_slice_dsl {lo hi : Option Operand} {p q : Nat} (ht : P.underlying t = some (.slice e)) (hz : (P.info? e).map (·.size) = some 1) (hx : aev T x = some (.dsl l)) (hl : bnd T 0 lo p) (hh : bnd T l.length hi q) (h1 : p ≤ q) (h2 : q ≤ l.length) (h3 : p < l.length) :
    OpSem P T H ⟨d, .slice t x lo hi none, ty, ps, af, gd⟩ nm wr (.dsl ((l.drop p).take (q - p))) [] :=
  .quiet fun E a w hop => by
    rcases (hop x (by simp [Op.operands]) _ hx).dsl_inv with ⟨L, lc, o, c, s, g1, g2, g3, g4, g5, g6⟩ | ⟨ad, rfl, _⟩
    · have hb := run_sliceBounds_ok (P := P) (sl := true) (cap := c) (fun q hq u hu => hop q (mem_slice q hq) u hu) hl hh h1 (by omega) w
      have hc : ¬ c = p := by omega
      have hlen : ((l.drop p).take (q - p)).length = q - p := by rw [List.length_take, List.length_drop]; omega
      have hr := Rel.dsl (E := E) ((l.drop p).take (q - p)) L lc (o + p) (c - p) s g1 (fun k v hk => by
        rw [List.getElem?_take] at hk
        split at hk
        · rw [List.getElem?_drop] at hk
          rw [Nat.add_assoc]; exact g2 _ _ hk
        · cases hk) (by rw [hlen]; omega) (by omega) (by omega)
      rw [hlen] at hr
      refine ⟨.slice (some ⟨lc, o + p, none⟩) (q - p) (c - p), ?_, hr⟩
      simp [execOp, g6, Instr.sliceAt, Instr.slice, run_underlying ht, hb, run_sizeOf_is hz, hc, add_at]
    · exact absurd h3 (by simp)
end
theorem nil_dsl (E : Emb) (y : Value) (h : Rel E .nilsl y) : Rel E (.dsl []) y := by rw [h.nilsl_inv]; exact .dsl0 _
theorem Rel.fsl_inv {E : Emb} {y : Value} {cs : List AV} {n z : Nat} (h : Rel E (.fsl cs n z) y) : (∃ (L : Nat → Option Value) (g : Nat → Value) (a o c s : Nat), E.d a = some (L, s) ∧ cs.length = n * z ∧ (∀ x ∈ cs, x.still = true) ∧ (∀ (i : Nat), i < cs.length → L (o + i) = some (g i)) ∧ (∀ (i : Nat) x, cs[i]? = some x → Rel E x (g i)) ∧ n ≤ c ∧ c ≤ maxLen ∧ o + c * z ≤ s ∧ y = .slice (some ⟨a, o, none⟩) n c) ∨ (∃ ad, cs = [] ∧ n = 0 ∧ y = .slice ad 0 0) := by
  cases h with
  | fsl _ _ _ L g a o c s h h0 h1 h2 h3 h4 h5 h6 => exact .inl ⟨L, g, a, o, c, s, h, h0, h1, h2, h3, h4, h5, h6, rfl⟩
  | fsl0 z ad => exact .inr ⟨ad, rfl, rfl, rfl⟩
  | agg _ _ _ h => cases h
theorem Rel.fptr_inv {E : Emb} {y : Value} {cs : List AV} (h : Rel E (.fptr cs) y) : ∃ (L : Nat → Option Value) (g : Nat → Value) (a o s : Nat), E.d a = some (L, s) ∧ (∀ x ∈ cs, x.still = true) ∧ (∀ (i : Nat), i < cs.length → L (o + i) = some (g i)) ∧ (∀ (i : Nat) x, cs[i]? = some x → Rel E x (g i)) ∧ 0 < cs.length ∧ y = .pointer (some ⟨a, o, none⟩) := by
  cases h with
  | fptr _ L g a o s h h1 h2 h3 h4 => exact ⟨L, g, a, o, s, h, h1, h2, h3, h4, rfl⟩
  | agg _ _ _ h => cases h
/-- Strings that lie still, in the one way and in the other. -/
theorem fsl_dsl {l : List (List UInt8)} {n : Nat} (hn : n = l.length) (E : Emb) (y : Value) (h : Rel E (.fsl (l.map .str) n 1) y) : Rel E (.dsl l) y := by
  subst hn
  rcases h.fsl_inv with ⟨L, g, a, o, c, s, h1, h2, h3, h4, h5, h6, h7, h8, rfl⟩ | ⟨ad, h1, h2, rfl⟩
  · refine .dsl l L a o c s h1 (fun i x hx => ?_) h6 h7 (by omega)
    have hi : i < (l.map AV.str).length := by rw [List.length_map]; exact (List.getElem?_eq_some_iff.1 hx).1
    rw [h4 i hi, (h5 i (.str x) (by simp [hx])).str_inv]
  · obtain rfl : l = [] := List.eq_nil_of_length_eq_zero h2
    exact .dsl0 ad
theorem nil_fsl (z : Nat) (E : Emb) (y : Value) (h : Rel E .nilsl y) : Rel E (.fsl [] 0 z) y := by rw [h.nilsl_inv]; exact .fsl0 z _
theorem dsl_fsl (l : List (List UInt8)) (E : Emb) (y : Value) (h : Rel E (.dsl l) y) : Rel E (.fsl (l.map .str) l.length 1) y := by
  rcases h.dsl_inv with ⟨L, a, o, c, s, h1, h2, h3, h4, h5, rfl⟩ | ⟨ad, rfl, rfl⟩
  · refine .fsl _ _ _ L (fun i => .string ⟨(l.getD i []).toArray⟩) a o c s h1 (by simp) (fun x hx => by obtain ⟨q, _, rfl⟩ := List.mem_map.1 hx; rfl) (fun i hi => ?_) (fun i x hx => ?_) h3 h4 (by omega)
    · rw [List.length_map] at hi
      exact h2 i _ (by rw [List.getD_eq_getElem?_getD, List.getElem?_eq_getElem hi]; rfl)
    · obtain ⟨q, hq, rfl⟩ := get_map_some hx
      rw [List.getD_eq_getElem?_getD, hq]; exact .str q
  · exact .fsl0 1 ad
section
variable {P : Program} {T : Nat → Option AV} {H : Hp} {nm : Nat} {wr : Bool} {d : Option Tmp} {ty : TypeId} {ps : String} {af : Array Edge} {gd : Option (Nat × Bool)} {t e : TypeId} {x y : Operand} {i n z : Nat} {cs : List AV} {dd : TypeDesc}
theorem op_len_fsl (ht : P.underlying t = some (.slice e)) (hx : aev T x = some (.fsl cs n z)) :
    OpSem P T H ⟨d, .call { callee := .builtin .len, args := #[x], argTypes := #[t] }, ty, ps, af, gd⟩ nm wr (.i64 (n : Int)) [] :=
  op_len_run hx fun E y w hr => by
    rcases hr.fsl_inv with ⟨L, g, a, o, c, s, _, _, _, _, _, _, _, _, rfl⟩ | ⟨ad, _, rfl, rfl⟩
    · simp [Builtin.len_, run_underlying ht, goInt]
    · simp [Builtin.len_, run_underlying ht, goInt]
theorem op_indexAddr_fsl {j : Int} (ht : P.underlying t = some (.slice e)) (hz : (P.info? e).map (·.size) = some z) (hz0 : 0 < z) (hx : aev T x = some (.fsl cs n z)) (hy : aev T y = some (.i64 j)) (hj : j = (i : Int)) (hlt : i < n) :
    OpSem P T H ⟨d, .indexAddr t x y, ty, ps, af, gd⟩ nm wr (.fptr (cs.drop (i * z))) [] :=
  .quiet fun E a w h => by
    subst hj
    have h2 := (h y mem22 _ hy).i64_inv
    rcases (h x mem21 _ hx).fsl_inv with ⟨L, g, q, o, c, s, h1, h3, h4, h5, h6, h7, h8, h9, h10⟩ | ⟨ad, _, rfl, _⟩
    · have hiz : i * z + z ≤ n * z := by rw [← Nat.succ_mul]; exact Nat.mul_le_mul_right _ hlt
      refine ⟨.pointer (some ⟨q, o + i * z, none⟩), ?_, .fptr _ L (fun k => g (i * z + k)) q (o + i * z) s h1 (fun x hx => h4 x (List.mem_of_mem_drop hx)) (fun k hk => ?_) (fun k v hk => ?_) (by rw [List.length_drop]; omega)⟩
      · have hin : (0 : Int) ≤ (i : Int) ∧ (i : Int) < (n : Int) := by omega
        simp [execOp, h2, h10, Instr.indexAt, asIntOf, run_underlying ht, hin, run_sizeOf_is hz, add_at, hlt]
      · rw [List.length_drop] at hk
        rw [Nat.add_assoc]; exact h5 _ (by omega)
      · rw [List.getElem?_drop] at hk
        exact h6 _ _ hk
    · exact absurd hlt (Nat.not_lt_zero _)
/-- A cell of a place that lies still. -/
theorem op_load_fptr {v : AV} (hu : P.underlying t = some dd) (hna : (match dd with | .struct _ | .array _ _ => true | _ => false) = false) (hx : aev T x = some (.fptr cs)) (hv : cs[0]? = some v) :
    OpSem P T H ⟨d, .load t x, ty, ps, af, gd⟩ nm wr v [] :=
  .reads fun E S a w h hR => by
    obtain ⟨L, g, q, o, s, h1, h2, h3, h4, h5, h6⟩ := (h x mem1 _ hx).fptr_inv
    obtain ⟨⟨arr, tq, fz, g1, _, g3⟩, _⟩ := hR.deep q L s h1
    have hc : w.cell? ⟨q, o, none⟩ = some (g 0) := (cell_of_row w q o arr tq fz g1).trans (g3 o _ (h3 0 h5))
    refine ⟨_, ?_, h4 0 v hv⟩
    simp [execOp, h6, Instr.loadAt, Instr.sureAddr, loadVar, run_isAgg_no hu hna, hc]
theorem op_slice_fsl {lo hi : Option Operand} {p q : Nat} (ht : P.underlying t = some (.slice e)) (hz : (P.info? e).map (·.size) = some z) (hx : aev T x = some (.fsl cs n z)) (hl : bnd T 0 lo p) (hh : bnd T n hi q) (h1 : p ≤ q) (h2 : q ≤ n) (h3 : p < n) :
    OpSem P T H ⟨d, .slice t x lo hi none, ty, ps, af, gd⟩ nm wr (.fsl ((cs.drop (p * z)).take ((q - p) * z)) (q - p) z) [] :=
  .quiet fun E a w hop => by
    rcases (hop x (by simp [Op.operands]) _ hx).fsl_inv with ⟨L, g, lc, o, c, s, g1, g2, g3, g4, g5, g6, g7, g8, g9⟩ | ⟨ad, _, rfl, _⟩
    · have hb := run_sliceBounds_ok (P := P) (sl := true) (cap := c) (fun q hq u hu => hop q (mem_slice q hq) u hu) hl hh h1 (by omega) w
      have hc : ¬ c = p := by omega
      have e1 : (q - p) * z + p * z = q * z := by rw [← Nat.add_mul]; congr 1; omega
      have e2 : q * z ≤ n * z := Nat.mul_le_mul_right _ h2
      have e3 : (c - p) * z + p * z = c * z := by rw [← Nat.add_mul]; congr 1; omega
      have hlen : ((cs.drop (p * z)).take ((q - p) * z)).length = (q - p) * z := by rw [List.length_take, List.length_drop]; omega
      refine ⟨.slice (some ⟨lc, o + p * z, none⟩) (q - p) (c - p), ?_, .fsl _ _ _ L (fun k => g (p * z + k)) lc (o + p * z) (c - p) s g1 hlen (fun x hx => g3 x (List.mem_of_mem_drop (List.mem_of_mem_take hx))) (fun k hk => ?_) (fun k v hk => ?_) (by omega) (by omega) (by omega)⟩
      · simp [execOp, g9, Instr.sliceAt, Instr.slice, run_underlying ht, hb, run_sizeOf_is hz, hc, add_at]
      · rw [hlen] at hk
        rw [Nat.add_assoc]; exact g4 _ (by omega)
      · rw [List.getElem?_take] at hk
        split at hk
        · rw [List.getElem?_drop] at hk; exact g5 _ _ hk
        · cases hk
    · exact absurd h3 (Nat.not_lt_zero _)
end
/-- An own block is written no more: its name goes, a slice of it says what it holds. -/
theorem StLe.freezeF {nt : Nat} {T : List (Nat × AV)} {H : List (Nat × Option ABlk)} {nx t b o n z e : Nat} {c : AV} (hn : 1000 ≤ nx) (ht : lk T t = some (.sl b o n z)) (hb : hget H b = some ⟨c, e, true⟩) (hl : o + n * z ≤ c.list.length) (hst : ∀ x ∈ c.list, x.still = true) (hmm : c.isMap = false := by first | rfl | assumption | exact AV.map_parts (by assumption)) :
    StLe nt ⟨T, H, nx⟩ ⟨(t, .fsl ((c.list.drop o).take (n * z)) n z) :: T, (b, none) :: H, nx⟩ := by
  refine ⟨hn, fun E S n0 a w hR => ?_⟩
  obtain ⟨q, s, h1, arr, tq, fz, g1, g2, _, _, g5⟩ := hR.rh.blkR hb hmm
  have hd : E.d q = none := by
    cases hq : E.d q with
    | none => rfl
    | some p => exact absurd h1 ((hR.rh.deep q p.1 p.2 hq).2 b _ s hb rfl)
  have hlen : ((c.list.drop o).take (n * z)).length = n * z := by rw [List.length_take, List.length_drop]; omega
  have hle : E.le ⟨E.f, fun p => if p = q then some (fun i => arr[i]?, s) else E.d p⟩ := ⟨fun _ _ h => h, fun p r hp => by
    show (if p = q then some (fun i => arr[i]?, s) else E.d p) = some r
    rw [if_neg (fun h => by rw [h, hd] at hp; cases hp)]; exact hp⟩
  have hup : ∀ m, hget ((b, none) :: H) m = if m = b then none else hget H m := fun m => by
    have := upd_one b none (hget H) m
    rw [upd_hget] at this
    exact this
  have hsub : ∀ m k, hget ((b, none) :: H) m = some k → m ≠ b ∧ hget H m = some k := fun m k h => by
    rw [hup] at h
    split at h
    · cases h
    · rename_i h0; exact ⟨h0, h⟩
  refine ⟨⟨E.f, fun p => if p = q then some (fun i => arr[i]?, s) else E.d p⟩, ⟨fun _ _ => rfl, fun p => ?_⟩, fun t' v ht' => ?_, hR.nt, hR.df, ⟨fun m k hk => ?_, fun m m' k k' l1 s1 s2 q1 q2 q3 q4 q5 => ?_, fun m k l1 s1 q1 q2 q3 => ?_, fun p L' s1 hp => ?_⟩, hR.fr, hR.gl, hR.hS, hR.h0⟩
  · by_cases c : p = q
    · subst c; exact .inr ⟨hd, hR.rh.own b _ p s hb rfl h1⟩
    · exact .inl (if_neg c)
  · simp only [lk] at ht'
    split at ht'
    · rename_i e1
      injection ht' with ht'; subst ht'
      have e2 := Nat.eq_of_beq_eq_true e1
      subst e2
      rcases (hR.rt t _ ht).sl_inv with ⟨l1, s1, cp, q1, q2, q3, q4, q5⟩ | ⟨ad, q1, q5⟩
      · rw [h1] at q1; injection q1 with q1; injection q1 with e1 e2; subst e1; subst e2
        rw [q5]
        refine .fsl _ _ _ (fun i => arr[i]?) (fun i => (arr[o + i]?).getD default) q o cp s (if_pos rfl) hlen (fun x hx => hst x (List.mem_of_mem_drop (List.mem_of_mem_take hx))) (fun k hk => ?_) (fun k v hk => ?_) q2 q3 (by omega)
        · rw [hlen] at hk
          obtain ⟨_, y, p1, _⟩ := g5 (o + k) _ (List.getElem?_eq_getElem (show o + k < c.list.length by omega))
          show arr[o + k]? = _
          rw [p1]; rfl
        · rw [List.getElem?_take] at hk
          split at hk
          · rw [List.getElem?_drop] at hk
            obtain ⟨_, y, p1, p2⟩ := g5 (o + k) v hk
            show Rel _ v ((arr[o + k]?).getD default)
            rw [p1]; exact p2.mono hle
          · cases hk
      · rw [q5]
        subst q1
        rw [show ((c.list.drop o).take (0 * z)) = [] by rw [Nat.zero_mul, List.take_zero]]
        exact .fsl0 z ad
    · exact (hR.rt t' v ht').mono hle
  · obtain ⟨_, hk'⟩ := hsub m k hk
    obtain ⟨l1, s1, q1, q2⟩ := hR.rh.blk m k hk'
    exact ⟨l1, s1, q1, q2.mono hle rfl⟩
  · exact hR.rh.inj m m' k k' l1 s1 s2 (hsub _ _ q1).2 (hsub _ _ q2).2 q3 q4 q5
  · exact hR.rh.own m k l1 s1 (hsub _ _ q1).2 q2 q3
  · by_cases c : p = q
    · subst c
      have hp' : (if p = p then some (fun i => arr[i]?, s) else E.d p) = some (L', s1) := hp
      rw [if_pos rfl] at hp'; injection hp' with hp'; injection hp' with e1 e2; subst e1; subst e2
      refine ⟨⟨arr, tq, fz, g1, g2, fun i x hx => hx⟩, fun m k s2 q1 q2 q3 => ?_⟩
      exact (hsub _ _ q1).1 (hR.rh.inj b m _ k p s s2 hb (hsub _ _ q1).2 rfl h1 q3).symm
    · have hp' : (if p = q then some (fun i => arr[i]?, s) else E.d p) = some (L', s1) := hp
      rw [if_neg c] at hp'
      exact ⟨(hR.rh.deep p L' s1 hp').1, fun m k s2 q1 => (hR.rh.deep p L' s1 hp').2 m k s2 (hsub _ _ q1).2⟩
/-- An own block of strings is written no more: its name goes, a slice of it says what it holds. -/
theorem Ev.freeze {P : Program} {nt : Nat} {cd : Code} {post : Exit → St → Prop} {T : List (Nat × AV)} {H : List (Nat × Option ABlk)} {nx t b o n e : Nat} {L : List (List UInt8)} (hn : 1000 ≤ nx) (ht : lk T t = some (.sl b o n 1)) (hb : hget H b = some ⟨.aggS L, e, true⟩) (hl : o + n ≤ L.length)
    (h : Ev P nt cd ⟨(t, .dsl ((L.drop o).take n)) :: T, (b, none) :: H, nx⟩ post) : Ev P nt cd ⟨T, H, nx⟩ post := by
  refine Ev.weak (StLe.freezeF hn ht hb (by have e9 : (L.map AV.str).length = L.length := List.length_map _; show _ ≤ (L.map AV.str).length; omega) (fun x hx => by obtain ⟨q, _, rfl⟩ := List.mem_map.1 (show x ∈ L.map AV.str from hx); rfl)) ?_
  refine Ev.asR (T1 := []) (.dsl ((L.drop o).take n)) (fun E y hr => fsl_dsl (n := n) (by rw [List.length_take, List.length_drop]; omega) E y (by
    have e : ((AV.aggS L).list.drop o).take (n * 1) = ((L.drop o).take n).map .str := by show ((L.map AV.str).drop o).take (n * 1) = _; rw [Nat.mul_one, List.map_take, List.map_drop]
    rwa [e] at hr)) ?_
  exact h
end Go.Proofs.YticickigndgpcaaDoor
namespace Go.Proofs.YticickigndgpcaaDoor
open Go.RowKit
section
variable {P : Program} {T : Nat → Option AV} {H : Hp} {nm : Nat} {wr : Bool} {d : Option Tmp} {ty : TypeId} {ps : String} {af : Array Edge} {gd : Option (Nat × Bool)} {x : Operand} {c : AV}
/-- bytealg.MakeNoZero: a new block of bytes, of which nothing is known. -/
theorem op_makeNoZero {f : FuncId} {fn : Func} {ts p1 : Array TypeId} {r1 e : TypeId} {j : Int} {n : Nat} (hf : P.funcs[f]? = some fn) (hname : (fn.name == "runtime.NumGoroutine") = false) (hb : fn.body.isNone = true) (hnx : (Extern.findNext fn).isNone = true)
    (he : (Extern.find fn) = some (Extern.BytealgMakeNoZero.makeNoZero p1 #[r1])) (ht : P.underlying r1 = some (.slice e)) (hx : aev T x = some (.i64 j)) (hj : j = (n : Int)) (hn : n ≤ 1000000000) (hc : c.list = []) (hm0 : c.isMap = false := by first | rfl | assumption | exact AV.map_parts (by assumption)) :
    OpSem P T H ⟨d, .call { callee := .value (.func f), args := #[x], argTypes := ts }, ty, ps, af, gd⟩ nm wr (.sl nm 0 n 1) [(nm, some ⟨c, e, true⟩)] :=
  .allocs fun E S a w h hR => by
    subst hj
    have e1 := (h x (by simp [Op.operands, Call.operands]) _ hx).i64_inv
    obtain ⟨cs, hrun, hle, hmax⟩ := Lib.run_makeNoZero (P := P) w p1 r1 e ht n (by omega)
    have hr2 : (callFunc f #[a.eval x]).run P w = .ok (.value (.slice (some ⟨w.heap.size, 0, none⟩) n cs.size)) (w.drew.drew.alloc (.cells cs e)) := by rw [e1]; exact run_callFunc_ext hf hname hb hnx he hrun
    refine ⟨_, cs, (0, 0), w.drew.drew, run_exec_func (by simpa using hr2), rfl, rfl, rfl, rfl, (by first | exact DrOk.refl _ | exact (DrOk.refl _).drew | exact (DrOk.refl _).drew.drew), .sl _ _ _ _ _ _ _ (Emb.put_same _ _ _) hle (hmax (by unfold maxLen; omega)) (by omega), FzOk.zero _ _, by rw [hc]; simp, fun i q hq => by rw [hc] at hq; simp at hq⟩
end
end Go.Proofs.YticickigndgpcaaDoor
namespace Go.Proofs.YticickigndgpcaaDoor
open Go.RowKit
theorem op_buildRow {P : Program} {T : Nat → Option AV} {H : Hp} {nm : Nat} {wr : Bool} {d : Option Tmp} {ty : TypeId} {ps : String} {af : Array Edge} {gd : Option (Nat × Bool)} {t e : TypeId} {x : Operand} {zv : Value} {z : Nat} {r : AV} {cs : List AV}
    (hu : P.underlying t = some (.slice e)) (hi : Inf P e z zv) (hz0 : 0 < z) (hzm : z ≤ 1000) (hx : aev T x = some r) (hr : r.parts = some cs) (hl : cs.length = z) :
    OpSem P T H ⟨d, .buildSlice t 1 #[(0, x)], ty, ps, af, gd⟩ nm wr (.sl nm 0 1 z) [(nm, some ⟨r, e, true⟩)] := by
  obtain ⟨ie, hie, hz, hsz, _, _⟩ := hi
  exact .allocs fun E S a w h hR => by
    obtain ⟨ds, hd, hdl, hone, hcs⟩ := (h x (by simp [Op.operands]) _ hx).agg_inv hr
    have hds : ds.size = z := by omega
    have hf : Instr.fill (fun i => some (i * ie.size, ie.size)) ((Array.range (1 * ie.size)).map (zv.cells[· % zv.cells.size]!)) ((#[(0, x)] : Array (Nat × Operand)).map fun (i, x) => (i, a.eval x)).toList = some ds := by
      have e2 : ((#[((0 : Nat), x)] : Array (Nat × Operand)).map fun (i, x) => (i, a.eval x)).toList = [(0, .agg ds)] := by simp [hd]
      rw [e2]
      have hzs : ((Array.range (1 * ie.size)).map (zv.cells[· % zv.cells.size]!)).size = ds.size := by simp; omega
      generalize (Array.range (1 * ie.size)).map (zv.cells[· % zv.cells.size]!) = zc at hzs
      have h1 := foldset_all ds zc hzs
      have hc0 : (Value.agg ds).cells = ds := rfl
      simp only [Instr.fill, hc0, Nat.zero_mul, Nat.zero_add]
      rw [if_neg (by simp only [Bool.or_eq_true, decide_eq_true_eq, ne_eq, bne_iff_ne]; omega)]
      exact congrArg some h1
    have hrun := run_buildSlice (P := P) w t e 1 _ ds ie zv hu hie hz (by omega) (by omega) hf
    have hll : r.list.length = z := by simp [AV.list, hr, hl]
    refine ⟨_, ds, (0, 0), w, by simp only [execOp, Sem.run_bind, hrun]; rfl, rfl, rfl, rfl, rfl, (by first | exact DrOk.refl _ | exact (DrOk.refl _).drew | exact (DrOk.refl _).drew.drew), .sl _ _ _ _ _ _ _ (Emb.put_same _ _ _) (Nat.le_refl _) (by unfold maxLen; omega) (by omega), FzOk.zero _ _, by rw [hll]; omega, fun i q hq => ?_⟩
    replace hq : cs[i]? = some q := by simpa [AV.list, hr] using hq
    have hlt := (List.getElem?_eq_some_iff.1 hq).1
    refine ⟨hone q (List.mem_of_getElem? hq), ds[i]'(by omega), by rw [Array.getElem?_eq_getElem], hcs i q _ hq (by rw [Array.getElem?_eq_getElem])⟩
end Go.Proofs.YticickigndgpcaaDoor
namespace Go.Proofs.YticickigndgpcaaDoor
open Go.RowKit
theorem EvL.weakL {P : Program} {nt : Nat} {ops rest : List Oper} {st st2 : St} {q : St → Prop} (h : StLe nt st st2) (h2 : EvL P nt ops rest st2 q) : EvL P nt ops rest st q := by
  intro E S n0 a w Q hn hR hK
  obtain ⟨E', hkp, hR2⟩ := h.2 E S n0 a w hR
  exact h2 E' S n0 a w Q h.1 hR2 (fun st' E'' a' w' h1 h3 h4 h5 h6 => hK st' E'' a' w' h1 h3 (hkp.trans h4) h5 h6)
theorem EvL.freezeF {P : Program} {nt : Nat} {ops rest : List Oper} {q : St → Prop} {T : List (Nat × AV)} {H : List (Nat × Option ABlk)} {nx t b o n z e : Nat} {c : AV} (hn : 1000 ≤ nx) (ht : lk T t = some (.sl b o n z)) (hb : hget H b = some ⟨c, e, true⟩) (hl : o + n * z ≤ c.list.length) (hst : ∀ x ∈ c.list, x.still = true)
    (h : EvL P nt ops rest ⟨(t, .fsl ((c.list.drop o).take (n * z)) n z) :: T, (b, none) :: H, nx⟩ q) (hmm : c.isMap = false := by first | rfl | assumption | exact AV.map_parts (by assumption)) : EvL P nt ops rest ⟨T, H, nx⟩ q := EvL.weakL (StLe.freezeF hn ht hb hl hst) h
theorem EvL.freeze {P : Program} {nt : Nat} {ops rest : List Oper} {q : St → Prop} {T : List (Nat × AV)} {H : List (Nat × Option ABlk)} {nx t b o n e : Nat} {L : List (List UInt8)} (hn : 1000 ≤ nx) (ht : lk T t = some (.sl b o n 1)) (hb : hget H b = some ⟨.aggS L, e, true⟩) (hl : o + n ≤ L.length)
    (h : EvL P nt ops rest ⟨(t, .dsl ((L.drop o).take n)) :: T, (b, none) :: H, nx⟩ q) : EvL P nt ops rest ⟨T, H, nx⟩ q := by
  refine EvL.freezeF hn ht hb (by have e9 : (L.map AV.str).length = L.length := List.length_map _; show _ ≤ (L.map AV.str).length; omega) (fun x hx => by obtain ⟨q, _, rfl⟩ := List.mem_map.1 (show x ∈ L.map AV.str from hx); rfl) ?_
  refine EvL.asR (.dsl ((L.drop o).take n)) (fun E y hr => fsl_dsl (n := n) (by rw [List.length_take, List.length_drop]; omega) E y (by
    have e : ((AV.aggS L).list.drop o).take (n * 1) = ((L.drop o).take n).map .str := by show ((L.map AV.str).drop o).take (n * 1) = _; rw [Nat.mul_one, List.map_take, List.map_drop]
    rwa [e] at hr)) ?_
  exact h
section
variable {P : Program} {T : Nat → Option AV} {H : Hp} {nm : Nat} {wr : Bool} {d : Option Tmp} {ty : TypeId} {ps : String} {af : Array Edge} {gd : Option (Nat × Bool)} {t e : TypeId} {x y : Operand} {l : List (List UInt8)}
theorem srcs_dsl (hy : aev T y = some (.dsl l)) : Srcs P T H y 1 l.length (l.map .str) := by
  refine ⟨by simp, fun E S a w hop hR => ?_⟩
  rcases (hop _ hy).dsl_inv with ⟨L, q, o, c, s, h1, h2, h3, h4, h5, h6⟩ | ⟨ad, rfl, h6⟩
  · obtain ⟨⟨arr, tq, fz, g1, _, g3⟩, _⟩ := hR.deep q L s h1
    refine ⟨l.map fun x => .string ⟨x.toArray⟩, by simp, fun i v hv => ?_, fun w' hw => ⟨by rw [h6]; rfl, fun r hr => ?_⟩⟩
    · obtain ⟨p, hp, rfl⟩ := get_map_some hv
      exact ⟨rfl, _, by simp [hp], .str p⟩
    · rw [h6]
      exact run_firstCells_some (P := P) w' 1 r ⟨q, o, none⟩ l.length c _ (by simp; omega) (fun j v hj => by
        rw [add_at, World.cell?_of_block (w := w) (a := ⟨q, o + j, none⟩) (by rw [hw]), cell_of_row w q (o + j) arr tq fz g1]
        rw [List.getElem?_take] at hj
        split at hj
        · obtain ⟨p, hp, rfl⟩ := get_map_some hj
          exact g3 _ _ (h2 j p hp)
        · cases hj)
  · refine ⟨[], by simp, fun i q hq => by simp at hq, fun w' hw => ⟨by rw [h6]; rfl, fun r hr => ?_⟩⟩
    have hr0 : r = 0 := by simpa using hr
    subst hr0
    rw [h6]
    cases ad with
    | none => simp [Builtin.firstCells]
    | some ad =>
      have := run_firstCells_some (P := P) w' 1 0 ad 0 0 [] (by simp) (fun j v hj => by cases hj)
      simpa using this
/-- The first ones of a slice, be they none. -/
theorem op_first_dsl {hi : Operand} {q : Nat} (ht : P.underlying t = some (.slice e)) (hz : (P.info? e).map (·.size) = some 1) (hx : aev T x = some (.dsl l)) (hh : bnd T l.length (some hi) q) (h2 : q ≤ l.length) :
    OpSem P T H ⟨d, .slice t x none (some hi) none, ty, ps, af, gd⟩ nm wr (.dsl (l.take q)) [] :=
  .quiet fun E a w hop => by
    rcases (hop x (by simp [Op.operands]) _ hx).dsl_inv with ⟨L, lc, o, c, s, g1, g2, g3, g4, g5, g6⟩ | ⟨ad, rfl, g6⟩
    · have hb := run_sliceBounds_ok (P := P) (sl := true) (cap := c) (fun q hq u hu => hop q (mem_slice q hq) u hu) (show bnd T 0 none 0 from rfl) hh (Nat.zero_le _) (by omega) w
      simp only [Option.map_none, Option.map_some] at hb
      have hlen : (l.take q).length = q := by rw [List.length_take]; omega
      have hr := Rel.dsl (E := E) (l.take q) L lc o c s g1 (fun k v hk => by
        rw [List.getElem?_take] at hk
        split at hk
        · exact g2 _ _ hk
        · cases hk) (by rw [hlen]; omega) g4 g5
      rw [hlen] at hr
      refine ⟨.slice (some ⟨lc, o, none⟩) q c, ?_, hr⟩
      by_cases hc : c = 0
      · subst hc; simp [execOp, g6, Instr.sliceAt, Instr.slice, run_underlying ht, hb, run_sizeOf_is hz]
      · have hadd : (⟨lc, o, none⟩ : Addr).add 0 = ⟨lc, o, none⟩ := rfl
        simp [execOp, g6, Instr.sliceAt, Instr.slice, run_underlying ht, hb, run_sizeOf_is hz, hc, hadd]
    · have hq : q = 0 := by simpa using h2
      subst hq
      have hb := run_sliceBounds_ok (P := P) (sl := true) (cap := 0) (fun q hq u hu => hop q (mem_slice q hq) u hu) (show bnd T 0 none 0 from rfl) hh (Nat.zero_le _) (Nat.le_refl _) w
      simp only [Option.map_none, Option.map_some, List.length_nil] at hb
      refine ⟨.slice ad 0 0, ?_, .dsl0 ad⟩
      simp [execOp, g6, Instr.sliceAt, Instr.slice, run_underlying ht, hb, run_sizeOf_is hz]
end
/-- A function without captures. -/
theorem fn_clo (f : Nat) (E : Emb) (y : Value) (h : Rel E (.val (.func (.func f) #[] #[])) y) : Rel E (.clo f []) y := by
  rw [h.val_inv]; exact .clo f [] #[] rfl (fun i x y hx => by simp at hx)
end Go.Proofs.YticickigndgpcaaDoor
namespace Go.Proofs.YticickigndgpcaaDoor
open Go.RowKit
theorem agg_app {E : Emb} {a b r : AV} {ca cb : List AV} {da db : Array Value} (ha : a.parts = some ca) (hb : b.parts = some cb) (hr : r.parts = some (ca ++ cb)) (h1 : Rel E a (.agg da)) (h2 : Rel E b (.agg db)) : Rel E r (.agg (da ++ db)) := by
  obtain ⟨d1, e1, l1, o1, c1⟩ := h1.agg_inv ha
  obtain ⟨d2, e2, l2, o2, c2⟩ := h2.agg_inv hb
  injection e1 with e1; injection e2 with e2
  subst e1; subst e2
  refine .agg _ _ _ hr (by simp [l1, l2]) (fun x hx => ?_) (fun i x y hx hy => ?_)
  · rcases List.mem_append.1 hx with h | h
    · exact o1 x h
    · exact o2 x h
  · rcases Nat.lt_or_ge i ca.length with hi | hi
    · rw [List.getElem?_append_left hi] at hx
      rw [Array.getElem?_append_left (by omega)] at hy
      exact c1 i x y hx hy
    · rw [List.getElem?_append_right hi] at hx
      rw [Array.getElem?_append_right (by omega), ← l1] at hy
      exact c2 _ x y hx hy
theorem op_buildRows2 {P : Program} {T : Nat → Option AV} {H : Hp} {nm : Nat} {wr : Bool} {d : Option Tmp} {ty : TypeId} {ps : String} {af : Array Edge} {gd : Option (Nat × Bool)} {t e : TypeId} {z : Nat} {zc : Array Value} {x y : Operand} {a b r : AV} {ca cb : List AV}
    (hu : P.underlying t = some (.array 2 e)) (hsz : (P.info? e).map (·.size) = some z) (hz : (P.info? t).map (·.zero) = some (some (.agg zc))) (hs : zc.size = z + z) (hx : aev T x = some a) (hy : aev T y = some b) (ha : a.parts = some ca) (hb : b.parts = some cb) (hla : ca.length = z) (hlb : cb.length = z) (hr : r.parts = some (ca ++ cb)) :
    OpSem P T H ⟨d, .build t #[(0, x), (1, y)], ty, ps, af, gd⟩ nm wr r [] :=
  .quiet fun E ac w h => by
    have h1 := h x (by simp [Op.operands]) _ hx
    have h2 := h y (by simp [Op.operands]) _ hy
    obtain ⟨da, hd, hl, _⟩ := h1.agg_inv ha
    obtain ⟨db, hd2, hl2, _⟩ := h2.agg_inv hb
    have hl : da.size = z := by omega
    have hl2 : db.size = z := by omega
    rw [hd] at h1; rw [hd2] at h2
    refine ⟨.agg (da ++ db), ?_, agg_app ha hb hr h1 h2⟩
    have key := foldset_app da db zc (by omega)
    have e1 : Instr.fill (fun i => some (i * z, z)) zc [(0, .agg da), (1, .agg db)] = some (da ++ db) := by
      have s1 : (da.zipIdx.foldl (fun cs x => cs.setIfInBounds x.2 x.1) zc).size = zc.size := by
        rw [← Array.foldl_toList, Array.toList_zipIdx]; exact (foldset da.toList 0 zc (by simp; omega)).1
      show (if da.size ≠ z || 0 * z + da.size > zc.size then none else
        (if db.size ≠ z || 1 * z + db.size > (da.zipIdx.foldl (fun cs x => cs.setIfInBounds (0 * z + x.2) x.1) zc).size then none else
          some (db.zipIdx.foldl (fun cs x => cs.setIfInBounds (1 * z + x.2) x.1) (da.zipIdx.foldl (fun cs x => cs.setIfInBounds (0 * z + x.2) x.1) zc)))) = _
      have z1 : (fun (cs : Array Value) (x : Value × Nat) => cs.setIfInBounds (0 * z + x.2) x.1) = fun cs x => cs.setIfInBounds x.2 x.1 := by funext cs x; rw [Nat.zero_mul, Nat.zero_add]
      rw [z1, if_neg (by rw [Nat.zero_mul]; simp; omega), if_neg (by rw [s1]; simp; omega), Nat.one_mul, ← hl, key]
    simp only [execOp, Sem.run_bind, Instr.build, run_zero hz, Result.andThen_ok, run_underlying hu, run_sizeOf_is hsz]
    have e2 : (#[((0 : Nat), x), (1, y)].map fun (i, x) => (i, ac.eval x)).toList = [(0, .agg da), (1, .agg db)] := by simp [hd, hd2]
    have e3 : (Value.agg zc).cells = zc := rfl
    rw [e2, e3, e1]
    simp
end Go.Proofs.YticickigndgpcaaDoor
namespace Go.Proofs.YticickigndgpcaaDoor
open Go.RowKit
theorem StLe.freezeB {nt : Nat} {T : List (Nat × AV)} {H : List (Nat × Option ABlk)} {nx cb i b o n z e ec : Nat} {oc : Bool} {cs : List AV} {c : AV} (hn : 1000 ≤ nx) (hcb : hget H cb = some ⟨.agg cs, ec, oc⟩) (hi : cs[i]? = some (.sl b o n z)) (hb : hget H b = some ⟨c, e, true⟩) (hne : cb ≠ b) (hl : o + n * z ≤ c.list.length) (hst : ∀ x ∈ c.list, x.still = true) (hmm : c.isMap = false := by first | rfl | assumption | exact AV.map_parts (by assumption)) :
    StLe nt ⟨T, H, nx⟩ ⟨T, (cb, some ⟨.agg (cs.set i (.fsl ((c.list.drop o).take (n * z)) n z)), ec, oc⟩) :: (b, none) :: H, nx⟩ := by
  refine ⟨hn, fun E S n0 a w hR => ?_⟩
  obtain ⟨q, s, h1, arr, tq, fz, g1, g2, _, _, g5⟩ := hR.rh.blkR hb hmm
  have hd : E.d q = none := by
    cases hq : E.d q with
    | none => rfl
    | some p => exact absurd h1 ((hR.rh.deep q p.1 p.2 hq).2 b _ s hb rfl)
  have hlen : ((c.list.drop o).take (n * z)).length = n * z := by rw [List.length_take, List.length_drop]; omega
  have hle : E.le ⟨E.f, fun p => if p = q then some (fun i => arr[i]?, s) else E.d p⟩ := ⟨fun _ _ h => h, fun p r hp => by
    show (if p = q then some (fun i => arr[i]?, s) else E.d p) = some r
    rw [if_neg (fun h => by rw [h, hd] at hp; cases hp)]; exact hp⟩
  have hrel : ∀ y, Rel E (.sl b o n z) y → Rel ⟨E.f, fun p => if p = q then some (fun i => arr[i]?, s) else E.d p⟩ (.fsl ((c.list.drop o).take (n * z)) n z) y := fun y hy => by
    rcases hy.sl_inv with ⟨l1, s1, cp, q1, q2, q3, q4, q5⟩ | ⟨ad, q1, q5⟩
    · rw [h1] at q1; injection q1 with q1; injection q1 with e1 e2; subst e1; subst e2
      rw [q5]
      refine .fsl _ _ _ (fun i => arr[i]?) (fun i => (arr[o + i]?).getD default) q o cp s (if_pos rfl) hlen (fun x hx => hst x (List.mem_of_mem_drop (List.mem_of_mem_take hx))) (fun k hk => ?_) (fun k v hk => ?_) q2 q3 (by omega)
      · rw [hlen] at hk
        obtain ⟨_, y, p1, _⟩ := g5 (o + k) _ (List.getElem?_eq_getElem (show o + k < c.list.length by omega))
        show arr[o + k]? = _
        rw [p1]; rfl
      · rw [List.getElem?_take] at hk
        split at hk
        · rw [List.getElem?_drop] at hk
          obtain ⟨_, y, p1, p2⟩ := g5 (o + k) v hk
          show Rel _ v ((arr[o + k]?).getD default)
          rw [p1]; exact p2.mono hle
        · cases hk
    · rw [q5]
      subst q1
      rw [show ((c.list.drop o).take (0 * z)) = [] by rw [Nat.zero_mul, List.take_zero]]
      exact .fsl0 z ad
  have hup : ∀ m, hget ((cb, some ⟨.agg (cs.set i (.fsl ((c.list.drop o).take (n * z)) n z)), ec, oc⟩) :: (b, none) :: H) m = if m = cb then some ⟨.agg (cs.set i (.fsl ((c.list.drop o).take (n * z)) n z)), ec, oc⟩ else if m = b then none else hget H m := fun m => by
    have e1 := upd_one cb (some (⟨.agg (cs.set i (.fsl ((c.list.drop o).take (n * z)) n z)), ec, oc⟩ : ABlk)) (hget ((b, none) :: H)) m
    rw [upd_hget] at e1
    have e2 := upd_one b none (hget H) m
    rw [upd_hget] at e2
    exact e1.trans (by rw [show hget ((b, none) :: H) m = if m = b then none else hget H m from e2])
  have hsub : ∀ m k, hget ((cb, some ⟨.agg (cs.set i (.fsl ((c.list.drop o).take (n * z)) n z)), ec, oc⟩) :: (b, none) :: H) m = some k → m ≠ b ∧ ∃ k0, hget H m = some k0 ∧ k0.own = k.own := fun m k h => by
    rw [hup] at h
    split at h
    · rename_i e0; injection h with h; subst h; rw [e0]; exact ⟨hne, _, hcb, rfl⟩
    · split at h
      · cases h
      · rename_i h0; exact ⟨h0, k, h, rfl⟩
  refine ⟨⟨E.f, fun p => if p = q then some (fun i => arr[i]?, s) else E.d p⟩, ⟨fun _ _ => rfl, fun p => ?_⟩, fun t' v ht' => (hR.rt t' v ht').mono hle, hR.nt, hR.df, ⟨fun m k hk => ?_, fun m m' k k' l1 s1 s2 q1 q2 q3 q4 q5 => ?_, fun m k l1 s1 q1 q2 q3 => ?_, fun p L' s1 hp => ?_⟩, hR.fr, hR.gl, hR.hS, hR.h0⟩
  · by_cases c : p = q
    · subst c; exact .inr ⟨hd, hR.rh.own b _ p s hb rfl h1⟩
    · exact .inl (if_neg c)
  · rw [hup] at hk
    split at hk
    · rename_i e0; injection hk with hk; subst hk; subst e0
      obtain ⟨l1, s1, q1, arr2, t2, fz2, r1, r2, ⟨r3, r4⟩, r5, r6⟩ := hR.rh.blkR hcb rfl
      refine ⟨l1, s1, q1, .row rfl ⟨arr2, t2, fz2, r1, r2, ⟨⟨r3.w, r3.z, fun x y u => ?_⟩, r4⟩, ?_, fun j x hx => ?_⟩⟩
      · have := r3.f x y u
        refine ⟨this.1, ?_⟩
        show (cs.set i _).length ≤ _
        rw [List.length_set]; exact this.2
      · show (cs.set i _).length ≤ _
        rw [List.length_set]; exact r5
      · replace hx : (cs.set i (.fsl ((c.list.drop o).take (n * z)) n z))[j]? = some x := hx
        rw [List.getElem?_set] at hx
        split at hx
        · rename_i ej
          subst ej
          split at hx
          · injection hx with hx; subst hx
            obtain ⟨_, y, u1, u2⟩ := r6 i _ hi
            exact ⟨rfl, y, u1, hrel y u2⟩
          · cases hx
        · obtain ⟨u0, y, u1, u2⟩ := r6 j x hx
          exact ⟨u0, y, u1, u2.mono hle⟩
    · split at hk
      · cases hk
      · obtain ⟨l1, s1, q1, q2⟩ := hR.rh.blk m k hk
        exact ⟨l1, s1, q1, q2.mono hle rfl⟩
  · obtain ⟨_, k0, u1, u2⟩ := hsub _ _ q1
    obtain ⟨_, k1, u3, _⟩ := hsub _ _ q2
    exact hR.rh.inj m m' k0 k1 l1 s1 s2 u1 u3 (u2.trans q3) q4 q5
  · obtain ⟨_, k0, u1, u2⟩ := hsub _ _ q1
    exact hR.rh.own m k0 l1 s1 u1 (u2.trans q2) q3
  · by_cases c : p = q
    · subst c
      have hp' : (if p = p then some (fun i => arr[i]?, s) else E.d p) = some (L', s1) := hp
      rw [if_pos rfl] at hp'; injection hp' with hp'; injection hp' with e1 e2; subst e1; subst e2
      refine ⟨⟨arr, tq, fz, g1, g2, fun i x hx => hx⟩, fun m k s2 q1 q2 q3 => ?_⟩
      obtain ⟨u0, k0, u1, _⟩ := hsub _ _ q1
      exact u0 (hR.rh.inj b m _ k0 p s s2 hb u1 rfl h1 q3).symm
    · have hp' : (if p = q then some (fun i => arr[i]?, s) else E.d p) = some (L', s1) := hp
      rw [if_neg c] at hp'
      refine ⟨(hR.rh.deep p L' s1 hp').1, fun m k s2 q1 q2 => ?_⟩
      obtain ⟨_, k0, u1, u2⟩ := hsub _ _ q1
      exact (hR.rh.deep p L' s1 hp').2 m k0 s2 u1 (u2.trans q2)
/-- Cells of a block, said more weakly. -/
theorem StLe.weakB {nt : Nat} {T : List (Nat × AV)} {H : List (Nat × Option ABlk)} {nx cb ec : Nat} {oc : Bool} {cs cs' : List AV} (hn : 1000 ≤ nx) (hcb : hget H cb = some ⟨.agg cs, ec, oc⟩) (hlen : cs'.length = cs.length) (hw : ∀ (i : Nat) x x', cs[i]? = some x → cs'[i]? = some x' → x'.cell = true ∧ ∀ E y, Rel E x y → Rel E x' y) :
    StLe nt ⟨T, H, nx⟩ ⟨T, (cb, some ⟨.agg cs', ec, oc⟩) :: H, nx⟩ := by
  refine ⟨hn, fun E S n0 a w hR => ?_⟩
  have hup : ∀ m, hget ((cb, some ⟨.agg cs', ec, oc⟩) :: H) m = if m = cb then some ⟨.agg cs', ec, oc⟩ else hget H m := fun m => by
    have e1 := upd_one cb (some (⟨.agg cs', ec, oc⟩ : ABlk)) (hget H) m
    rw [upd_hget] at e1; exact e1
  have hsub : ∀ m k, hget ((cb, some ⟨.agg cs', ec, oc⟩) :: H) m = some k → ∃ k0, hget H m = some k0 ∧ k0.own = k.own := fun m k h => by
    rw [hup] at h
    split at h
    · rename_i e0; injection h with h; subst h; rw [e0]; exact ⟨_, hcb, rfl⟩
    · exact ⟨k, h, rfl⟩
  refine ⟨E, Emb.kp_refl _ _, hR.rt, hR.nt, hR.df, ⟨fun m k hk => ?_, fun m m' k k' l1 s1 s2 q1 q2 q3 q4 q5 => ?_, fun m k l1 s1 q1 q2 q3 => ?_, fun p L' s1 hp => ?_⟩, hR.fr, hR.gl, hR.hS, hR.h0⟩
  · rw [hup] at hk
    split at hk
    · rename_i e0; injection hk with hk; subst hk; subst e0
      obtain ⟨l1, s1, q1, arr2, t2, fz2, r1, r2, ⟨r3, r4⟩, r5, r6⟩ := hR.rh.blkR hcb rfl
      have hl1 : (AV.agg cs').list.length = (AV.agg cs).list.length := hlen
      refine ⟨l1, s1, q1, .row rfl ⟨arr2, t2, fz2, r1, r2, ⟨⟨r3.w, r3.z, fun x y u => ⟨(r3.f x y u).1, by rw [hl1]; exact (r3.f x y u).2⟩⟩, r4⟩, by rw [hl1]; exact r5, fun j x hx => ?_⟩⟩
      replace hx : cs'[j]? = some x := hx
      have hj : j < cs.length := by rw [← hlen]; exact (List.getElem?_eq_some_iff.1 hx).1
      obtain ⟨_, y, u1, u2⟩ := r6 j _ (show cs[j]? = some cs[j] from List.getElem?_eq_getElem hj)
      obtain ⟨v1, v2⟩ := hw j _ x (List.getElem?_eq_getElem hj) hx
      exact ⟨v1, y, u1, v2 E y u2⟩
    · exact hR.rh.blk m k hk
  · obtain ⟨k0, u1, u2⟩ := hsub _ _ q1
    obtain ⟨k1, u3, _⟩ := hsub _ _ q2
    exact hR.rh.inj m m' k0 k1 l1 s1 s2 u1 u3 (u2.trans q3) q4 q5
  · obtain ⟨k0, u1, u2⟩ := hsub _ _ q1
    exact hR.rh.own m k0 l1 s1 u1 (u2.trans q2) q3
  · refine ⟨(hR.rh.deep p L' s1 hp).1, fun m k s2 q1 q2 => ?_⟩
    obtain ⟨k0, u1, u2⟩ := hsub _ _ q1
    exact (hR.rh.deep p L' s1 hp).2 m k0 s2 u1 (u2.trans q2)
/-- A row of five, of which slices may be nil: as slices that lie still. -/
theorem weak5 {k x1 x2 x3 x4 y1 y2 y3 y4 : AV} (hk : k.cell = true) (c1 : y1.cell = true) (c2 : y2.cell = true) (c3 : y3.cell = true) (c4 : y4.cell = true) (h1 : ∀ E y, Rel E x1 y → Rel E y1 y) (h2 : ∀ E y, Rel E x2 y → Rel E y2 y) (h3 : ∀ E y, Rel E x3 y → Rel E y3 y) (h4 : ∀ E y, Rel E x4 y → Rel E y4 y) :
    ∀ (i : Nat) x x', ([k, x1, x2, x3, x4] : List AV)[i]? = some x → ([k, y1, y2, y3, y4] : List AV)[i]? = some x' → x'.cell = true ∧ ∀ E y, Rel E x y → Rel E x' y := by
  intro i x x' hx hx'
  match i, hx, hx' with
  | 0, hx, hx' => injection hx with hx; injection hx' with hx'; subst hx; subst hx'; exact ⟨hk, fun _ _ h => h⟩
  | 1, hx, hx' => injection hx with hx; injection hx' with hx'; subst hx; subst hx'; exact ⟨c1, h1⟩
  | 2, hx, hx' => injection hx with hx; injection hx' with hx'; subst hx; subst hx'; exact ⟨c2, h2⟩
  | 3, hx, hx' => injection hx with hx; injection hx' with hx'; subst hx; subst hx'; exact ⟨c3, h3⟩
  | 4, hx, hx' => injection hx with hx; injection hx' with hx'; subst hx; subst hx'; exact ⟨c4, h4⟩
  | i + 5, hx, _ => simp at hx
end Go.Proofs.YticickigndgpcaaDoor
namespace Go.Proofs.YticickigndgpcaaDoor
open Go.RowKit
open Go.ChangeMaps (setBlock)
theorem setBlock_same {w : World} {b : Nat} {o o0 : Obj} (h : w.heap[b]? = some o0) : (setBlock w b o).heap[b]? = some o := by
  have := lt_of_heap h
  simp [setBlock, this]
theorem setBlock_other {w : World} {b i : Nat} {o : Obj} (h : i ≠ b) : (setBlock w b o).heap[i]? = w.heap[i]? := by
  simp only [setBlock]; rw [Array.getElem?_setIfInBounds, if_neg (by omega)]
theorem Fr.setBlock {S : Nat → Prop} (w : World) (b : Nat) (o : Obj) (hb : S b) : Fr S w (setBlock w b o) :=
  ⟨rfl, rfl, rfl, by simp [Go.ChangeMaps.setBlock], fun k _ hn => setBlock_other fun e => hn (by rw [e]; exact hb), .same rfl⟩
theorem heap_old_of (w : World) (o : Obj) (k : Nat) (hk : k < w.heap.size) : (w.alloc o).heap[k]? = w.heap[k]? := by
  show (w.heap.push o)[k]? = _
  rw [Array.getElem?_push, if_neg (by omega)]
/-- A new object under a new name. -/
theorem RH.allocO {E : Emb} {S : Nat → Prop} {H : Hp} {w : World} (h : RH E S H w) (hS : S w.heap.size) {b : Nat} (hb : E b = none) (k : ABlk) (o : Obj) (s : Nat)
    (hk0 : KAt (E.put b (w.heap.size, s)) k (w.alloc o) w.heap.size s) : RH (E.put b (w.heap.size, s)) S (upd [(b, some k)] H) (w.alloc o) := by
  have hle := Emb.put_le (E := E) (b := b) (p := (w.heap.size, s)) hb
  have lt : ∀ n k' l s, H n = some k' → E n = some (l, s) → l < w.heap.size := fun n k' l s hk he => by
    obtain ⟨l', s', h1, h2⟩ := h.blk n k' hk
    rw [he] at h1; injection h1 with h1; injection h1 with h1 _; rw [h1]; exact h2.lt
  refine ⟨fun n k' hk => ?_, fun n n' k1 k2 l s1 s' h1 h2 h3 h4 h5 => ?_, fun n k' l s1 h1 h2 h3 => ?_, fun a L s1 ha => ?_⟩
  rotate_right 1
  · have hd := h.deep a L s1 ha
    refine ⟨hd.1.mono (heap_old_of w _ a hd.1.lt), fun n k' s' hk ho' he => ?_⟩
    rw [upd_one] at hk
    split at hk
    · rename_i e; subst e
      rw [Emb.put_same] at he; injection he with he; injection he with he _
      have := hd.1.lt
      omega
    · rename_i e
      rw [Emb.put_other _ _ e] at he
      exact hd.2 n k' s' hk ho' he
  · rw [upd_one] at hk
    split at hk
    · rename_i e; subst e; injection hk with hk; subst hk
      exact ⟨w.heap.size, s, Emb.put_same _ _ _, hk0⟩
    · obtain ⟨l, s, h1, h2⟩ := h.blk n k' hk
      exact ⟨l, s, hle.1 _ _ h1, h2.mono hle (heap_old_of w _ l h2.lt)⟩
  · rw [upd_one] at h1 h2
    by_cases e1 : n = b
    · by_cases e2 : n' = b
      · rw [e1, e2]
      · rw [if_neg e2] at h2
        rw [Emb.put_other _ _ e2] at h5
        subst e1
        rw [Emb.put_same] at h4; injection h4 with h4; injection h4 with h4 _
        have := lt n' k2 _ _ h2 h5
        omega
    · rw [if_neg e1] at h1
      rw [Emb.put_other _ _ e1] at h4
      by_cases e2 : n' = b
      · subst e2
        rw [Emb.put_same] at h5; injection h5 with h5; injection h5 with h5 _
        have := lt n k1 _ _ h1 h4
        omega
      · rw [if_neg e2] at h2
        rw [Emb.put_other _ _ e2] at h5
        exact h.inj n n' k1 k2 l s1 s' h1 h2 h3 h4 h5
  · rw [upd_one] at h1
    by_cases e1 : n = b
    · subst e1
      rw [Emb.put_same] at h3; injection h3 with h3; injection h3 with h3 _
      rw [← h3]; exact hS
    · rw [if_neg e1] at h1
      rw [Emb.put_other _ _ e1] at h3
      exact h.own n k' l s1 h1 h2 h3
/-- One of the call's own objects turns: the name has what it is now. -/
theorem RH.turn {E : Emb} {S : Nat → Prop} {H : Hp} {w : World} (h : RH E S H w) {b l s : Nat} {k : ABlk} (hk : H b = some k) (ho : k.own = true) (he : E b = some (l, s)) (o : Obj) (c' : AV)
    (hk0 : KAt E ⟨c', k.elem, k.own⟩ (setBlock w l o) l s) : RH E S (upd [(b, some ⟨c', k.elem, k.own⟩)] H) (setBlock w l o) := by
  refine ⟨fun n k' hn => ?_, fun n n' k1 k2 l1 s1 s1' g1 g2 g3 g4 g5 => ?_, fun n k' l1 s1 g1 g2 g3 => ?_, fun a L s1 ha => ?_⟩
  rotate_right 1
  · have hd := h.deep a L s1 ha
    have hne : l ≠ a := fun e => hd.2 b k s hk ho (by rw [he, e])
    refine ⟨hd.1.mono (setBlock_other hne.symm), fun n k' s' hn ho' => ?_⟩
    rw [upd_one] at hn
    split at hn
    · rename_i e; subst e; exact hd.2 n k s' hk ho
    · exact hd.2 n k' s' hn ho'
  · rw [upd_one] at hn
    split at hn
    · rename_i e; subst e; injection hn with hn; subst hn
      exact ⟨l, s, he, hk0⟩
    · rename_i e
      obtain ⟨l1, s1, g1, g2⟩ := h.blk n k' hn
      refine ⟨l1, s1, g1, g2.mono (Emb.le_refl _) (setBlock_other (fun el => ?_))⟩
      subst el
      exact e (h.inj b n k k' l1 s s1 hk hn ho he g1).symm
  · have q : ∀ n k', upd [(b, some ⟨c', k.elem, k.own⟩)] H n = some k' → ∃ k0, H n = some k0 ∧ k0.own = k'.own := fun n k' hn => by
      rw [upd_one] at hn
      split at hn
      · rename_i e; subst e; injection hn with hn; subst hn; exact ⟨k, hk, rfl⟩
      · exact ⟨k', hn, rfl⟩
    obtain ⟨k0, q1, q2⟩ := q _ _ g1
    obtain ⟨k0', q1', _⟩ := q _ _ g2
    exact h.inj n n' k0 k0' l1 s1 s1' q1 q1' (q2.trans g3) g4 g5
  · rw [upd_one] at g1
    split at g1
    · rename_i e; subst e
      rw [he] at g3; injection g3 with g3; injection g3 with g3 _; subst g3
      exact h.own n k l s hk ho he
    · exact h.own n k' l1 s1 g1 g2 g3
section
variable {P : Program} {T : Nat → Option AV} {H : Hp} {nm : Nat} {wr : Bool} {d : Option Tmp} {ty t kt et : TypeId} {ps : String} {af : Array Edge} {gd : Option (Nat × Bool)} {x y z : Operand} {b i : Nat} {k : ABlk} {u v v' kx c' : AV} {kv : Value} {ks : List Value} {vs : List AV} {bs : List Nat} {clk : Nat}
/-- A new map. -/
theorem op_makeMap (e : Nat) {c : AV} (hc : c.ents = some ([], [], [], 0) := by rfl) : OpSem P T H ⟨d, .makeMap t none, ty, ps, af, gd⟩ nm wr (.mp nm) [(nm, some ⟨c, e, true⟩)] := by
  intro E S n0 H2 a w hS hn _ _ _ hle hop hR hf K Q hK
  have hR2 := hR.allocO (hS _ hn) (hf nm (Nat.le_refl _) (by omega)) ⟨c, e, true⟩ (.map #[] 0) 0 (.map [] [] [] 0 hc rfl ⟨#[], heap_alloc_new w _, rfl, rfl, rfl, fun i e he => by simp at he⟩)
  unfold Oper.wp
  rw [show (execOp a.eval ⟨d, .makeMap t none, ty, ps, af, gd⟩).run P w = .ok (.value (.map (some w.heap.size))) (w.alloc (.map #[] 0)) from rfl]
  exact hK _ _ (E.put nm (w.heap.size, 0)) (fun b hb => Emb.put_other _ _ (fun e => by
    subst e
    rcases hb with hb | hb
    · simp [lk] at hb
    · exact hb ⟨Nat.le_refl _, by omega⟩)) (Emb.dx_refl _ _) (.mp nm _ (Emb.put_same _ _ _)) hR2 (Fr.alloc S w _)
/-- What is known of a map's keys. -/
structure KeysOk (P : Program) (kt : TypeId) (ks : List Value) (kx : AV) (kv : Value) : Prop where
  law : Maps.Keyed P kt
  all : ∀ q ∈ ks, (keyOf P kt q).isSome = true
  is : (keyOf P kt kv).isSome = true
  val : ∀ (E : Emb) (y : Value), Rel E kx y → y = kv
theorem find_map {w : World} {E : Emb} {l : Nat} (hkk : KeysOk P kt ks kx kv) (hm : MAt E ks vs bs clk w l) : ∃ es, w.heap[l]? = some (.map es clk) ∧ es.size = ks.length ∧ vs.length = ks.length ∧ bs.length = ks.length ∧
    (∀ (i : Nat) e, es[i]? = some e → bs[i]? = some e.born ∧ ks[i]? = some e.key ∧ ∃ x, vs[i]? = some x ∧ Rel E x e.val) ∧ (∀ em, (Instr.checkKey em 10000 kt kv).run P w = .ok () w) ∧
    (((Instr.findKey kt kv es.toList).run P w = .ok none w ∧ ∀ (j : Nat), ks[j]? ≠ some kv) ∨ ∃ (j : Nat) (e : MapEntry), (Instr.findKey kt kv es.toList).run P w = .ok (some (j, e.val)) w ∧ es[j]? = some e ∧ e.key = kv) := by
  obtain ⟨es, h1, h2, h3, h4, h5⟩ := hm
  obtain ⟨lv, hlv⟩ := Option.isSome_iff_exists.1 hkk.is
  refine ⟨es, h1, h2, h3, h4, h5, fun em => hkk.law.check w em hlv, ?_⟩
  rcases hkk.law.find w hlv es.toList (fun e he => by
    obtain ⟨j, hj⟩ := List.mem_iff_getElem?.1 he
    obtain ⟨_, q2, _⟩ := h5 j e (by simpa using hj)
    exact Option.isSome_iff_exists.1 (hkk.all _ (List.mem_of_getElem? q2))) with ⟨g1, g2⟩ | ⟨j, e, g1, g2, g3⟩
  · refine .inl ⟨g1, fun j hj => ?_⟩
    have hlt : j < es.size := by rw [h2]; exact (List.getElem?_eq_some_iff.1 hj).1
    obtain ⟨_, q2, _⟩ := h5 j es[j] (Array.getElem?_eq_getElem hlt)
    rw [hj] at q2; injection q2 with q2
    exact g2 es[j] (by simp) q2.symm
  · exact .inr ⟨j, e, g1, by simpa using g2, g3⟩
theorem op_lookupY (hkk : KeysOk P kt ks kx kv) (ht : P.underlying t = some (.map kt et)) (hx : aev T x = some (.mp b)) (hy : aev T y = some kx) (hk : H b = some k) (hc : k.c.ents = some (ks, vs, bs, clk)) (hi : ∀ j, ks[j]? = some kv ↔ j = i) (hv : vs[i]? = some v) (hvv : ∀ (E : Emb) (y : Value), Rel E v y → Rel E v' y) :
    OpSem P T H ⟨d, .lookup t x y true, ty, ps, af, gd⟩ nm wr (.tup [v', .bool true]) [] :=
  .reads fun E S a w hop hR => by
    obtain ⟨l, h1, h2⟩ := (hop x mem21 _ hx).mp_inv
    have h3 := hkk.val E _ (hop y mem22 _ hy)
    obtain ⟨l', s', g1, g2⟩ := hR.blk b k hk
    rw [h1] at g1; injection g1 with g1; injection g1 with e1 e2; subst e1; subst e2
    obtain ⟨es, q1, q2, q3, q4, q5, q6, q7⟩ := find_map hkk (g2.isMap hc).2
    rcases q7 with ⟨_, p2⟩ | ⟨j, e, p1, p2, p3⟩
    · exact absurd ((hi i).2 rfl) (p2 i)
    · obtain ⟨_, r2, xv, r3, r4⟩ := q5 j e p2
      rw [p3] at r2
      have hj := (hi j).1 r2
      subst hj
      rw [hv] at r3; injection r3 with r3; subst r3
      refine ⟨.tuple #[e.val, .bool true], ?_, .tup _ _ rfl (fun i' x' y' hx' hy' => ?_)⟩
      · simp [execOp, Instr.lookup, h2, h3, run_underlying ht, MapKept.run_getObj_map q1, q6, p1]
      · match i', hx', hy' with
        | 0, hx', hy' => simp at hx' hy'; subst hx'; subst hy'; exact hvv E _ r4
        | 1, hx', hy' => simp at hx' hy'; subst hx'; subst hy'; exact .bool _
        | n + 2, hx', _ => simp at hx'
theorem op_lookupN {zv : Value} (hkk : KeysOk P kt ks kx kv) (ht : P.underlying t = some (.map kt et)) (hz : (P.info? et).map (·.zero) = some (some zv)) (hr0 : Rel Emb.nil v zv) (hx : aev T x = some (.mp b)) (hy : aev T y = some kx) (hk : H b = some k) (hc : k.c.ents = some (ks, vs, bs, clk)) (hi : ∀ j : Nat, ks[j]? ≠ some kv) :
    OpSem P T H ⟨d, .lookup t x y true, ty, ps, af, gd⟩ nm wr (.tup [v, .bool false]) [] :=
  .reads fun E S a w hop hR => by
    obtain ⟨l, h1, h2⟩ := (hop x mem21 _ hx).mp_inv
    have h3 := hkk.val E _ (hop y mem22 _ hy)
    obtain ⟨l', s', g1, g2⟩ := hR.blk b k hk
    rw [h1] at g1; injection g1 with g1; injection g1 with e1 e2; subst e1; subst e2
    obtain ⟨es, q1, q2, q3, q4, q5, q6, q7⟩ := find_map hkk (g2.isMap hc).2
    rcases q7 with ⟨p1, _⟩ | ⟨j, e, p1, p2, p3⟩
    · refine ⟨.tuple #[zv, .bool false], ?_, .tup _ _ rfl (fun i' x' y' hx' hy' => ?_)⟩
      · obtain ⟨ie, hie, hz⟩ := Option.map_eq_some_iff.1 hz
        have hzr : (zeroValue et).run P w = .ok zv w := by simp [zeroValue, typeInfo, hie, hz]
        simp [execOp, Instr.lookup, h2, h3, run_underlying ht, MapKept.run_getObj_map q1, q6, p1, hzr]
      · match i', hx', hy' with
        | 0, hx', hy' => simp at hx' hy'; subst hx'; subst hy'; exact hr0.mono (Emb.nil_le _)
        | 1, hx', hy' => simp at hx' hy'; subst hx'; subst hy'; exact .bool _
        | n + 2, hx', _ => simp at hx'
    · obtain ⟨_, r2, _⟩ := q5 j e p2
      rw [p3] at r2
      exact absurd r2 (hi j)
/-- .. without a second value. -/
theorem op_lookupY1 (hkk : KeysOk P kt ks kx kv) (ht : P.underlying t = some (.map kt et)) (hx : aev T x = some (.mp b)) (hy : aev T y = some kx) (hk : H b = some k) (hc : k.c.ents = some (ks, vs, bs, clk)) (hi : ∀ j, ks[j]? = some kv ↔ j = i) (hv : vs[i]? = some v) (hvv : ∀ (E : Emb) (y : Value), Rel E v y → Rel E v' y) :
    OpSem P T H ⟨d, .lookup t x y false, ty, ps, af, gd⟩ nm wr v' [] :=
  .reads fun E S a w hop hR => by
    obtain ⟨l, h1, h2⟩ := (hop x mem21 _ hx).mp_inv
    have h3 := hkk.val E _ (hop y mem22 _ hy)
    obtain ⟨l', s', g1, g2⟩ := hR.blk b k hk
    rw [h1] at g1; injection g1 with g1; injection g1 with e1 e2; subst e1; subst e2
    obtain ⟨es, q1, q2, q3, q4, q5, q6, q7⟩ := find_map hkk (g2.isMap hc).2
    rcases q7 with ⟨_, p2⟩ | ⟨j, e, p1, p2, p3⟩
    · exact absurd ((hi i).2 rfl) (p2 i)
    · obtain ⟨_, r2, xv, r3, r4⟩ := q5 j e p2
      rw [p3] at r2
      have hj := (hi j).1 r2
      subst hj
      rw [hv] at r3; injection r3 with r3; subst r3
      exact ⟨e.val, by simp [execOp, Instr.lookup, h2, h3, run_underlying ht, MapKept.run_getObj_map q1, q6, p1], hvv E _ r4⟩
theorem op_lookupN1 {zv : Value} (hkk : KeysOk P kt ks kx kv) (ht : P.underlying t = some (.map kt et)) (hz : (P.info? et).map (·.zero) = some (some zv)) (hr0 : Rel Emb.nil v zv) (hx : aev T x = some (.mp b)) (hy : aev T y = some kx) (hk : H b = some k) (hc : k.c.ents = some (ks, vs, bs, clk)) (hi : ∀ j : Nat, ks[j]? ≠ some kv) :
    OpSem P T H ⟨d, .lookup t x y false, ty, ps, af, gd⟩ nm wr v [] :=
  .reads fun E S a w hop hR => by
    obtain ⟨l, h1, h2⟩ := (hop x mem21 _ hx).mp_inv
    have h3 := hkk.val E _ (hop y mem22 _ hy)
    obtain ⟨l', s', g1, g2⟩ := hR.blk b k hk
    rw [h1] at g1; injection g1 with g1; injection g1 with e1 e2; subst e1; subst e2
    obtain ⟨es, q1, q2, q3, q4, q5, q6, q7⟩ := find_map hkk (g2.isMap hc).2
    rcases q7 with ⟨p1, _⟩ | ⟨j, e, p1, p2, p3⟩
    · obtain ⟨ie, hie, hz⟩ := Option.map_eq_some_iff.1 hz
      have hzr : (zeroValue et).run P w = .ok zv w := by simp [zeroValue, typeInfo, hie, hz]
      exact ⟨zv, by simp [execOp, Instr.lookup, h2, h3, run_underlying ht, MapKept.run_getObj_map q1, q6, p1, hzr], hr0.mono (Emb.nil_le _)⟩
    · obtain ⟨_, r2, _⟩ := q5 j e p2
      rw [p3] at r2
      exact absurd r2 (hi j)
/-- A key that is there has its element written. -/
theorem op_mapPutY (hkk : KeysOk P kt ks kx kv) (ht : P.underlying t = some (.map kt et)) (hx : aev T x = some (.mp b)) (hy : aev T y = some kx) (hz : aev T z = some u) (hk : H b = some k) (hown : k.own = true) (hc : k.c.ents = some (ks, vs, bs, clk)) (hi : ∀ j, ks[j]? = some kv ↔ j = i) (hvv : ∀ (E : Emb) (y : Value), Rel E u y → Rel E v y) (hc' : c'.ents = some (ks, vs.set i v, bs, clk)) :
    OpSem P T H ⟨d, .mapUpdate t x y z, ty, ps, af, gd⟩ nm wr (.val undef) [(b, some ⟨c', k.elem, k.own⟩)] := by
  intro E S n0 H2 a w hS hn _ _ hwr hle hop hR hf K Q hK
  replace hk := hle b k hk
  obtain ⟨l, h1, h2⟩ := (hop x (by simp [Op.operands]) _ hx).mp_inv
  have h3 := hkk.val E _ (hop y (by simp [Op.operands]) _ hy)
  have h4 := hvv E _ (hop z (by simp [Op.operands]) _ hz)
  obtain ⟨l', s', g1, g2⟩ := hR.blk b k hk
  rw [h1] at g1; injection g1 with g1; injection g1 with e1 e2; subst e1; subst e2
  obtain ⟨es, q1, q2, q3, q4, q5, q6, q7⟩ := find_map hkk (g2.isMap hc).2
  rcases q7 with ⟨_, p2⟩ | ⟨j, e, p1, p2, p3⟩
  · exact absurd ((hi i).2 rfl) (p2 i)
  · obtain ⟨r1, r2, xv, r3, r4⟩ := q5 j e p2
    rw [p3] at r2
    have hj := (hi j).1 r2
    subst hj
    obtain ⟨lv, hlv⟩ := Option.isSome_iff_exists.1 hkk.is
    have hjs : j < es.size := (Array.getElem?_eq_some_iff.1 p2).1
    have hrun : (execOp a.eval ⟨d, .mapUpdate t x y z, ty, ps, af, gd⟩).run P w = .ok .skip (setBlock w l (.map (es.modify j fun e => { e with key := kv, val := a.eval z }) clk)) := by
      simp [execOp, Instr.mapUpdate, h2, h3, run_underlying ht, MapKept.run_getObj_map q1, q6, p1, p2, p3, hkk.law.stays w hlv, MapKept.run_setObj_map _ q1, setBlock]
    unfold Oper.wp
    rw [hrun]
    refine hK undef _ E (fun _ _ => rfl) (Emb.dx_refl _ _) (.val _) (hR.turn hk hown h1 _ c' (.map ks _ bs clk hc' rfl ⟨_, setBlock_same q1, by simpa using q2, by simpa using q3, q4, fun m e' he => ?_⟩)) (Fr.setBlock w l _ (hR.own b k l 0 hk hown h1))
    rw [Array.getElem?_modify] at he
    split at he
    · rename_i hjm
      subst hjm
      rw [p2] at he; injection he with he; subst he
      exact ⟨r1, r2, v, by rw [List.getElem?_set_self (by omega)], h4⟩
    · rename_i hjm
      obtain ⟨o1, o2, xo, o3, o4⟩ := q5 m e' he
      exact ⟨o1, o2, xo, by rw [List.getElem?_set_ne hjm]; exact o3, o4⟩
/-- A key that is not there comes in behind the others. -/
theorem op_mapPutN (hkk : KeysOk P kt ks kx kv) (ht : P.underlying t = some (.map kt et)) (hx : aev T x = some (.mp b)) (hy : aev T y = some kx) (hz : aev T z = some u) (hk : H b = some k) (hown : k.own = true) (hc : k.c.ents = some (ks, vs, bs, clk)) (hi : ∀ j : Nat, ks[j]? ≠ some kv) (hvv : ∀ (E : Emb) (y : Value), Rel E u y → Rel E v y) (hc' : c'.ents = some (ks ++ [kv], vs ++ [v], bs ++ [clk], clk + 1)) :
    OpSem P T H ⟨d, .mapUpdate t x y z, ty, ps, af, gd⟩ nm wr (.val undef) [(b, some ⟨c', k.elem, k.own⟩)] := by
  intro E S n0 H2 a w hS hn _ _ hwr hle hop hR hf K Q hK
  replace hk := hle b k hk
  obtain ⟨l, h1, h2⟩ := (hop x (by simp [Op.operands]) _ hx).mp_inv
  have h3 := hkk.val E _ (hop y (by simp [Op.operands]) _ hy)
  have h4 := hvv E _ (hop z (by simp [Op.operands]) _ hz)
  obtain ⟨l', s', g1, g2⟩ := hR.blk b k hk
  rw [h1] at g1; injection g1 with g1; injection g1 with e1 e2; subst e1; subst e2
  obtain ⟨es, q1, q2, q3, q4, q5, q6, q7⟩ := find_map hkk (g2.isMap hc).2
  rcases q7 with ⟨p1, _⟩ | ⟨j, e, p1, p2, p3⟩
  · have hrun : (execOp a.eval ⟨d, .mapUpdate t x y z, ty, ps, af, gd⟩).run P w = .ok .skip (setBlock w l (.map (es.push { key := kv, val := a.eval z, born := clk }) (clk + 1))) := by
      simp [execOp, Instr.mapUpdate, h2, h3, run_underlying ht, MapKept.run_getObj_map q1, q6, p1, MapKept.run_setObj_map _ q1, setBlock]
    unfold Oper.wp
    rw [hrun]
    refine hK undef _ E (fun _ _ => rfl) (Emb.dx_refl _ _) (.val _) (hR.turn hk hown h1 _ c' (.map _ _ _ _ hc' rfl ⟨_, setBlock_same q1, by simp [q2], by simp [q3], by simp [q4], fun m e' he => ?_⟩)) (Fr.setBlock w l _ (hR.own b k l 0 hk hown h1))
    rw [Array.getElem?_push] at he
    split at he
    · rename_i hm
      injection he with he; subst he
      subst hm
      exact ⟨by rw [List.getElem?_append_right (by omega), show es.size - bs.length = 0 by omega]; rfl, by rw [List.getElem?_append_right (by omega), show es.size - ks.length = 0 by omega]; rfl, v, by rw [List.getElem?_append_right (by omega), show es.size - vs.length = 0 by omega]; rfl, h4⟩
    · obtain ⟨o1, o2, xo, o3, o4⟩ := q5 m e' he
      have hm : m < es.size := (Array.getElem?_eq_some_iff.1 he).1
      exact ⟨by rw [List.getElem?_append_left (by omega)]; exact o1, by rw [List.getElem?_append_left (by omega)]; exact o2, xo, by rw [List.getElem?_append_left (by omega)]; exact o3, o4⟩
  · obtain ⟨_, r2, _⟩ := q5 j e p2
    rw [p3] at r2
    exact absurd r2 (hi j)
/-- delete of a key that is there. -/
theorem op_deleteY (hkk : KeysOk P kt ks kx kv) (ht : P.underlying t = some (.map kt et)) (hx : aev T x = some (.mp b)) (hy : aev T y = some kx) (hk : H b = some k) (hown : k.own = true) (hc : k.c.ents = some (ks, vs, bs, clk)) (hi : ∀ j, ks[j]? = some kv ↔ j = i) (hc' : c'.ents = some (ks.eraseIdx i, vs.eraseIdx i, bs.eraseIdx i, clk)) {t2 : TypeId} :
    OpSem P T H ⟨d, .call { callee := .builtin .delete, args := #[x, y], argTypes := #[t, t2] }, ty, ps, af, gd⟩ nm wr (.tup []) [(b, some ⟨c', k.elem, k.own⟩)] := by
  intro E S n0 H2 a w hS hn _ _ hwr hle hop hR hf K Q hK
  replace hk := hle b k hk
  obtain ⟨l, h1, h2⟩ := (hop x (by simp [Op.operands, Call.operands]) _ hx).mp_inv
  have h3 := hkk.val E _ (hop y (by simp [Op.operands, Call.operands]) _ hy)
  obtain ⟨l', s', g1, g2⟩ := hR.blk b k hk
  rw [h1] at g1; injection g1 with g1; injection g1 with e1 e2; subst e1; subst e2
  obtain ⟨es, q1, q2, q3, q4, q5, q6, q7⟩ := find_map hkk (g2.isMap hc).2
  rcases q7 with ⟨_, p2⟩ | ⟨j, e, p1, p2, p3⟩
  · exact absurd ((hi i).2 rfl) (p2 i)
  · obtain ⟨r1, r2, xv, r3, r4⟩ := q5 j e p2
    rw [p3] at r2
    have hj := (hi j).1 r2
    subst hj
    have hjs : j < es.size := (Array.getElem?_eq_some_iff.1 p2).1
    have hrun : (execOp a.eval ⟨d, .call { callee := .builtin .delete, args := #[x, y], argTypes := #[t, t2] }, ty, ps, af, gd⟩).run P w = .ok (.value (.tuple #[])) (setBlock w l (.map (es.eraseIdxIfInBounds j) clk)) := by
      have hb : (Builtin.delete_ #[t, t2] ty #[a.eval x, a.eval y]).run P w = .ok (.tuple #[]) (setBlock w l (.map (es.eraseIdxIfInBounds j) clk)) := by
        simp [Builtin.delete_, h2, h3, run_underlying ht, MapKept.run_getObj_map q1, q6, p1, MapKept.run_setObj_map _ q1, setBlock]
      simp [execOp, resolve, invoke, builtin, hb]
    unfold Oper.wp
    rw [hrun]
    refine hK _ _ E (fun _ _ => rfl) (Emb.dx_refl _ _) (.tup [] #[] rfl (fun i' x' y' hx' => by simp at hx')) (hR.turn hk hown h1 _ c' (.map _ _ _ clk hc' rfl ⟨_, setBlock_same q1, by simp [Array.eraseIdxIfInBounds, hjs, List.length_eraseIdx, ← q2], by simp [List.length_eraseIdx, q3], by simp [List.length_eraseIdx, q4], fun m e' he => ?_⟩)) (Fr.setBlock w l _ (hR.own b k l 0 hk hown h1))
    have he2 : (es.toList.eraseIdx j)[m]? = some e' := by
      rw [← he, Array.eraseIdxIfInBounds, dif_pos hjs, ← Array.getElem?_toList]
      simp
    rw [List.getElem?_eraseIdx] at he2
    simp only [List.getElem?_eraseIdx]
    split at he2
    · rename_i hm
      obtain ⟨o1, o2, xo, o3, o4⟩ := q5 m e' (by simpa using he2)
      simp only [if_pos hm]
      exact ⟨o1, o2, xo, o3, o4⟩
    · rename_i hm
      obtain ⟨o1, o2, xo, o3, o4⟩ := q5 (m + 1) e' (by simpa using he2)
      simp only [if_neg hm]
      exact ⟨o1, o2, xo, o3, o4⟩
/-- delete of a key that is not there. -/
theorem op_deleteN (hkk : KeysOk P kt ks kx kv) (ht : P.underlying t = some (.map kt et)) (hx : aev T x = some (.mp b)) (hy : aev T y = some kx) (hk : H b = some k) (hown : k.own = true) (hc : k.c.ents = some (ks, vs, bs, clk)) (hi : ∀ j : Nat, ks[j]? ≠ some kv) {t2 : TypeId} :
    OpSem P T H ⟨d, .call { callee := .builtin .delete, args := #[x, y], argTypes := #[t, t2] }, ty, ps, af, gd⟩ nm wr (.tup []) [(b, some ⟨k.c, k.elem, k.own⟩)] := by
  intro E S n0 H2 a w hS hn _ _ hwr hle hop hR hf K Q hK
  replace hk := hle b k hk
  obtain ⟨l, h1, h2⟩ := (hop x (by simp [Op.operands, Call.operands]) _ hx).mp_inv
  have h3 := hkk.val E _ (hop y (by simp [Op.operands, Call.operands]) _ hy)
  obtain ⟨l', s', g1, g2⟩ := hR.blk b k hk
  rw [h1] at g1; injection g1 with g1; injection g1 with e1 e2; subst e1; subst e2
  obtain ⟨es, q1, q2, q3, q4, q5, q6, q7⟩ := find_map hkk (g2.isMap hc).2
  rcases q7 with ⟨p1, _⟩ | ⟨j, e, p1, p2, p3⟩
  · have hrun : (execOp a.eval ⟨d, .call { callee := .builtin .delete, args := #[x, y], argTypes := #[t, t2] }, ty, ps, af, gd⟩).run P w = .ok (.value (.tuple #[])) (setBlock w l (.map es clk)) := by
      have hb : (Builtin.delete_ #[t, t2] ty #[a.eval x, a.eval y]).run P w = .ok (.tuple #[]) (setBlock w l (.map es clk)) := by
        simp [Builtin.delete_, h2, h3, run_underlying ht, MapKept.run_getObj_map q1, q6, p1, MapKept.run_setObj_map _ q1, setBlock]
      simp [execOp, resolve, invoke, builtin, hb]
    unfold Oper.wp
    rw [hrun]
    exact hK _ _ E (fun _ _ => rfl) (Emb.dx_refl _ _) (.tup [] #[] rfl (fun i' x' y' hx' => by simp at hx')) (hR.turn hk hown h1 _ k.c (.map _ _ _ clk hc rfl ⟨es, setBlock_same q1, q2, q3, q4, q5⟩)) (Fr.setBlock w l _ (hR.own b k l 0 hk hown h1))
  · obtain ⟨_, r2, _⟩ := q5 j e p2
    rw [p3] at r2
    exact absurd r2 (hi j)
/-- len of a map. -/
theorem op_len_map (ht : P.underlying t = some (.map kt et)) (hx : aev T x = some (.mp b)) (hk : H b = some k) (hc : k.c.ents = some (ks, vs, bs, clk)) :
    OpSem P T H ⟨d, .call { callee := .builtin .len, args := #[x], argTypes := #[t] }, ty, ps, af, gd⟩ nm wr (.i64 (ks.length : Int)) [] :=
  .reads fun E S a w hop hR => by
    obtain ⟨l, h1, h2⟩ := (hop x (by simp [Op.operands, Call.operands]) _ hx).mp_inv
    obtain ⟨l', s', g1, g2⟩ := hR.blk b k hk
    rw [h1] at g1; injection g1 with g1; injection g1 with e1 e2; subst e1; subst e2
    obtain ⟨es, q1, q2, _⟩ := (g2.isMap hc).2
    have hb : (Builtin.len_ #[t] ty #[a.eval x]).run P w = .ok (.int .i64 (ks.length : Int)) w := by
      simp [Builtin.len_, h2, run_underlying ht, MapKept.run_getObj_map q1, goInt, q2]
    exact ⟨_, by simp [execOp, resolve, invoke, builtin, hb], .i64 _⟩
/-- A range over a map begins. -/
theorem op_range (e : Nat) (ht : P.underlying t = some (.map kt et)) (hx : aev T x = some (.mp b)) (hk : H b = some k) (hc : k.c.ents = some (ks, vs, bs, clk)) :
    OpSem P T H ⟨d, .range t x, ty, ps, af, gd⟩ nm wr (.ptr nm 0) [(nm, some ⟨.iter b clk [] clk, e, true⟩)] := by
  intro E S n0 H2 a w hS hn _ _ _ hle hop hR hf K Q hK
  replace hk := hle b k hk
  obtain ⟨l, h1, h2⟩ := (hop x (by simp [Op.operands]) _ hx).mp_inv
  obtain ⟨l', s', g1, g2⟩ := hR.blk b k hk
  rw [h1] at g1; injection g1 with g1; injection g1 with e1 e2; subst e1; subst e2
  obtain ⟨es, q1, _⟩ := (g2.isMap hc).2
  have hfn := hf nm (Nat.le_refl _) (by omega)
  have hR2 := hR.allocO (hS _ hn) hfn ⟨.iter b clk [] clk, e, true⟩ (.mapIter (some l) clk #[] clk) 0 (.iter b clk [] clk rfl rfl ⟨l, (Emb.put_le hfn).1 _ _ h1, by show (w.heap.push _)[w.heap.size]? = _; simp⟩)
  have hrun : (execOp a.eval ⟨d, .range t x, ty, ps, af, gd⟩).run P w = .ok (.value (.pointer (some ⟨w.heap.size, 0, none⟩))) (w.alloc (.mapIter (some l) clk #[] clk)) := by
    simp [execOp, Instr.range, h2, run_underlying ht, MapKept.run_getObj_map q1]
  unfold Oper.wp
  rw [hrun]
  exact hK _ _ (E.put nm (w.heap.size, 0)) (fun b hb => Emb.put_other _ _ (fun e => by
    subst e
    rcases hb with hb | hb
    · simp [lk] at hb
    · exact hb ⟨Nat.le_refl _, by omega⟩)) (Emb.dx_refl _ _) (.ptr nm 0 _ _ (Emb.put_same _ _ _)) hR2 (Fr.alloc S w _)
theorem left_mem {es : Array MapEntry} {seen : List Nat} {e : MapEntry} (h : e ∈ (leftOf es seen.toArray).toList) : ∃ j : Nat, es[j]? = some e ∧ e.born ∉ seen := by
  simp only [leftOf, Array.toList_filter, List.mem_filter] at h
  obtain ⟨h1, h2⟩ := h
  obtain ⟨j, hj⟩ := List.mem_iff_getElem?.1 h1
  exact ⟨j, by simpa using hj, by simpa using h2⟩
/-- A range over a map has met all. -/
theorem op_nextEnd {q e since last : Nat} {seen : List Nat} {ow : Bool} (hx : aev T x = some (.ptr q 0)) (hq : H q = some ⟨.iter b since seen last, e, ow⟩) (hk : H b = some k) (hc : k.c.ents = some (ks, vs, bs, clk)) (hsi : ∀ n ∈ bs, n < since) (hla : since ≤ last) (hend : ∀ n ∈ bs, n ∈ seen) :
    OpSem P T H ⟨d, .next x false, ty, ps, af, gd⟩ nm wr (.tup [.bool false]) [] :=
  .reads fun E S a w hop hR => by
    obtain ⟨l, s, h1, h2⟩ := (hop x mem1 _ hx).ptr_inv
    obtain ⟨l', s', g1, g2⟩ := hR.blk q _ hq
    rw [h1] at g1; injection g1 with g1; injection g1 with e1 e2; subst e1; subst e2
    obtain ⟨_, lm, i1, i2⟩ := g2.isIter rfl
    obtain ⟨m', s2, m1, m2⟩ := hR.blk b k hk
    rw [i1] at m1; injection m1 with m1; injection m1 with e1 e2; subst e1; subst e2
    obtain ⟨es, q1, q2, q3, q4, q5⟩ := (m2.isMap hc).2
    rcases run_next_at (P := P) w ty l lm since last seen.toArray es clk i2 q1 (fun n hn => by
      obtain ⟨j, hj⟩ := List.mem_iff_getElem?.1 hn
      exact hsi _ (List.mem_of_getElem? (q5 j n (by simpa using hj)).1)) hla with ⟨_, hr⟩ | ⟨en, hen, _⟩
    · refine ⟨.tuple #[.bool false], by simp [execOp, h2, hr], .tup _ _ rfl (fun i' x' y' hx' hy' => ?_)⟩
      match i', hx', hy' with
      | 0, hx', hy' => simp at hx' hy'; subst hx'; subst hy'; exact .bool _
      | n + 1, hx', _ => simp at hx'
    · obtain ⟨j, hj, hns⟩ := left_mem hen
      exact absurd (hend _ (List.mem_of_getElem? (q5 j en hj).1)) hns
/-- A range over a map meets one of those that are left, whichever. -/
theorem op_nextX {q e since last : Nat} {seen : List Nat} {kA vA : Nat → AV} (hx : aev T x = some (.ptr q 0)) (hq : H q = some ⟨.iter b since seen last, e, true⟩) (hk : H b = some k) (hc : k.c.ents = some (ks, vs, bs, clk)) (hsi : ∀ n ∈ bs, n < since) (hla : since ≤ last) (hsome : ∃ n ∈ bs, n ∉ seen)
    (hkA : ∀ (j : Nat) kv, ks[j]? = some kv → ∀ E, Rel E (kA j) kv) (hvA : ∀ (j : Nat) v, vs[j]? = some v → ∀ (E : Emb) y, Rel E v y → Rel E (vA j) y) :
    OpSemX P T H ⟨d, .next x false, ty, ps, af, gd⟩ nm wr { j : Nat // ∃ n, bs[j]? = some n ∧ n ∉ seen } (fun j => .tup [.bool true, kA j.1, vA j.1]) (fun j => [(q, some ⟨.iter b since (seen ++ [bs.getD j.1 0]) clk, e, true⟩)]) := by
  intro E S n0 H2 a w hS hn0 _ _ hwr hle hop hR hf K Q hK
  replace hq := hle q _ hq
  replace hk := hle b _ hk
  obtain ⟨l, s, h1, h2⟩ := (hop x mem1 _ hx).ptr_inv
  obtain ⟨l', s', g1, g2⟩ := hR.blk q _ hq
  rw [h1] at g1; injection g1 with g1; injection g1 with e1 e2; subst e1; subst e2
  obtain ⟨hs0, lm, i1, i2⟩ := g2.isIter rfl
  obtain ⟨m', s2, m1, m2⟩ := hR.blk b k hk
  rw [i1] at m1; injection m1 with m1; injection m1 with e1 e2; subst e1; subst e2
  obtain ⟨es, q1, q2, q3, q4, q5⟩ := (m2.isMap hc).2
  rcases run_next_at (P := P) w ty l lm since last seen.toArray es clk i2 q1 (fun n hn => by
    obtain ⟨j, hj⟩ := List.mem_iff_getElem?.1 hn
    exact hsi _ (List.mem_of_getElem? (q5 j n (by simpa using hj)).1)) hla with ⟨hz, _⟩ | ⟨en, hen, w1, hw1, hr⟩
  · obtain ⟨n, hn1, hn2⟩ := hsome
    obtain ⟨j, hj⟩ := List.mem_iff_getElem?.1 hn1
    have hjl : j < es.size := by rw [q2, ← q4]; exact (List.getElem?_eq_some_iff.1 hj).1
    have hb := (q5 j es[j] (Array.getElem?_eq_getElem hjl)).1
    rw [hj] at hb; injection hb with hb
    have : es[j] ∈ (leftOf es seen.toArray).toList := by
      simp only [leftOf, Array.toList_filter, List.mem_filter]
      exact ⟨by simp, by simpa [← hb] using hn2⟩
    rw [Array.eq_empty_of_size_eq_zero hz] at this
    cases this
  · obtain ⟨j, hj, hns⟩ := left_mem hen
    obtain ⟨r1, r2, xv, r3, r4⟩ := q5 j en hj
    have hbj : bs.getD j 0 = en.born := by rw [List.getD_eq_getElem?_getD, r1]; rfl
    have hw1h : w1.heap = w.heap := by rcases hw1 with rfl | rfl <;> rfl
    have hR1 : RH E S H2 w1 := hR.same fun _ _ => by rw [hw1h]
    have hF1 : Fr S w w1 := by
      rcases hw1 with rfl | rfl
      · exact Fr.refl _ _
      · exact (Fr.refl S w).drew
    unfold Oper.wp
    rw [show (execOp a.eval ⟨d, .next x false, ty, ps, af, gd⟩).run P w = .ok (.value (.tuple #[.bool true, en.key, en.val])) (setBlock w1 l (.mapIter (some lm) since (seen.toArray.push en.born) clk)) by simp [execOp, h2, hr]]
    have i2' : w1.heap[l]? = some (.mapIter (some lm) since seen.toArray last) := by rw [hw1h]; exact i2
    refine hK ⟨j, en.born, r1, hns⟩ _ _ E (fun _ _ => rfl) (Emb.dx_refl _ _) (.tup _ _ rfl (fun i' x' y' hx' hy' => ?_)) (hR1.turn hq rfl h1 _ _ (.iter b since (seen ++ [bs.getD j 0]) clk rfl hs0 ⟨lm, i1, ?_⟩)) (hF1.trans (Fr.setBlock w1 l _ (hR.own q _ l s hq rfl h1)))
    · match i', hx', hy' with
      | 0, hx', hy' => simp at hx' hy'; subst hx'; subst hy'; exact .bool _
      | 1, hx', hy' => simp at hx' hy'; subst hx'; subst hy'; exact hkA j _ r2 E
      | 2, hx', hy' => simp at hx' hy'; subst hx'; subst hy'; exact hvA j _ r3 E _ r4
      | n + 3, hx', _ => simp at hx'
    · rw [setBlock_same i2', hbj]; simp
/-- .. the only one that is left. -/
theorem op_nextOne {q e since last n : Nat} {seen : List Nat} {kA vA : AV} (hx : aev T x = some (.ptr q 0)) (hq : H q = some ⟨.iter b since seen last, e, true⟩) (hk : H b = some k) (hc : k.c.ents = some (ks, vs, bs, clk)) (hsi : ∀ n ∈ bs, n < since) (hla : since ≤ last) (hn : bs[i]? = some n) (hns : n ∉ seen) (huq : ∀ (j : Nat) m, bs[j]? = some m → m ∉ seen → j = i)
    (hkA : ∀ kv, ks[i]? = some kv → ∀ E, Rel E kA kv) (hvA : ∀ v, vs[i]? = some v → ∀ (E : Emb) y, Rel E v y → Rel E vA y) :
    OpSem P T H ⟨d, .next x false, ty, ps, af, gd⟩ nm wr (.tup [.bool true, kA, vA]) [(q, some ⟨.iter b since (seen ++ [n]) clk, e, true⟩)] := by
  intro E S n0 H2 a w h1 h2 h3 h4 h5 h6 h7 h8 h9 K Q hK
  refine op_nextX (kA := fun j => if j = i then kA else .hole) (vA := fun j => if j = i then vA else .hole) (ty := ty) (ps := ps) (af := af) (gd := gd) (d := d) hx hq hk hc hsi hla ⟨n, List.mem_of_getElem? hn, hns⟩ (fun j kv hj E => ?_) (fun j v hj E y hv => ?_) E S n0 H2 a w h1 h2 h3 h4 h5 h6 h7 h8 h9 K Q fun j y w' E' g1 g2 g3 g4 g5 => ?_
  · by_cases hji : j = i
    · subst hji; simp only [if_true]; exact hkA kv hj E
    · simp only [hji, if_false]; exact .hole _
  · by_cases hji : j = i
    · subst hji; simp only [if_true]; exact hvA v hj E y hv
    · simp only [hji, if_false]; exact .hole _
  · obtain ⟨j, m, hm1, hm2⟩ := j
    have hji := huq j m hm1 hm2
    subst hji
    have hb : bs.getD j 0 = n := by rw [List.getD_eq_getElem?_getD, hn]; rfl
    simp only [if_true] at g3
    replace g4 : RH E' S (upd [(q, some ⟨.iter b since (seen ++ [bs.getD j 0]) clk, e, true⟩)] H2) w' := g4
    rw [hb] at g4
    exact hK y w' E' (fun b' hb' => g1 b' (hb'.imp (fun h => by simp only [lk] at h ⊢; split at h <;> simp_all) id)) g2 g3 g4 g5
/-- The key and the element that a range over a map has met. -/
theorem op_entry {q e since n : Nat} {seen : List Nat} {ow : Bool} {kA vA : AV} (hx : aev T x = some (.ptr q 0)) (hq : H q = some ⟨.iter b since (seen ++ [n]) clk, e, ow⟩) (hk : H b = some k) (hc : k.c.ents = some (ks, vs, bs, clk)) (hn : bs[i]? = some n) (huq : ∀ (j : Nat), bs[j]? = some n → j = i)
    (hkA : ∀ kv, ks[i]? = some kv → ∀ E, Rel E kA kv) (hvA : ∀ v, vs[i]? = some v → ∀ (E : Emb) y, Rel E v y → Rel E vA y) :
    OpSem P T H ⟨d, .entry x, ty, ps, af, gd⟩ nm wr (.tup [kA, vA]) [] :=
  .reads fun E S a w hop hR => by
    obtain ⟨l, s, h1, h2⟩ := (hop x mem1 _ hx).ptr_inv
    obtain ⟨l', s', g1, g2⟩ := hR.blk q _ hq
    rw [h1] at g1; injection g1 with g1; injection g1 with e1 e2; subst e1; subst e2
    obtain ⟨_, lm, i1, i2⟩ := g2.isIter rfl
    obtain ⟨m', s2, m1, m2⟩ := hR.blk b k hk
    rw [i1] at m1; injection m1 with m1; injection m1 with e1 e2; subst e1; subst e2
    obtain ⟨es, q1, q2, q3, q4, q5⟩ := (m2.isMap hc).2
    have hil : i < es.size := by rw [q2, ← q4]; exact (List.getElem?_eq_some_iff.1 hn).1
    obtain ⟨r1, r2, xv, r3, r4⟩ := q5 i es[i] (Array.getElem?_eq_getElem hil)
    have hbn : es[i].born = n := by rw [hn] at r1; injection r1 with r1; exact r1.symm
    have hf : es.find? (·.born == n) = some es[i] := by
      rw [Array.find?_eq_some_iff_getElem]
      refine ⟨by simpa using hbn, i, hil, rfl, fun j hj => ?_⟩
      have hjl : j < es.size := by omega
      have := (q5 j es[j] (Array.getElem?_eq_getElem hjl)).1
      simp only [Bool.not_eq_true', beq_eq_false_iff_ne, ne_eq]
      intro hh
      rw [hh] at this
      have := huq j this
      omega
    have hback : (seen ++ [n]).toArray.back? = some n := by simp
    have hr : (Instr.entry (.pointer (some ⟨l, 0, none⟩))).run P w = .ok (.tuple #[es[i].key, es[i].val]) w := by
      simp only [Instr.entry, getObj, Sem.run_bind, Sem.run, i2, q1, Result.andThen, hback, bne_self_eq_false, Bool.false_eq_true, if_false, hf]
      rfl
    refine ⟨.tuple #[es[i].key, es[i].val], by simp [execOp, h2, hr], .tup _ _ rfl (fun i' x' y' hx' hy' => ?_)⟩
    match i', hx', hy' with
    | 0, hx', hy' => simp at hx' hy'; subst hx'; subst hy'; exact hkA _ r2 E
    | 1, hx', hy' => simp at hx' hy'; subst hx'; subst hy'; exact hvA _ r3 E _ r4
    | n + 2, hx', _ => simp at hx'
end
end Go.Proofs.YticickigndgpcaaDoor
