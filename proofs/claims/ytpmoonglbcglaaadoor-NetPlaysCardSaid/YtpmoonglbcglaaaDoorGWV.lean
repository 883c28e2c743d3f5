/-
  Texts of this claim.
-/
import Derived.Lib.BufferWrite
import Derived.Test.YtpmoonglbcglaaaDoorGWE
namespace Go.Proofs.YtpmoonglbcglaaaDoor
open Go.RowKit
def mx32 (p q : UInt32) : UInt32 := if p.toNat < q.toNat then q else p
def mn32 (p q : UInt32) : UInt32 := if q.toNat < p.toNat then q else p
def mn64 (p q : UInt64) : UInt64 := if q.toNat < p.toNat then q else p
section
variable {P : Program} {T : Nat → Option AV} {H : Hp} {nm : Nat} {wr : Bool} {v u c c' : AV} {d : Option Tmp} {ty : TypeId} {ps : String} {af : Array Edge} {gd : Option (Nat × Bool)} {t t' t2 e : TypeId} {x y z : Operand} {b o n : Nat} {k : ABlk} {ts : Array TypeId}
theorem op_cap_run {i : Int} (hx : aev T x = some u) (h : ∀ (E : Emb) (y : Value) (w : World), Rel E u y → (Builtin.cap_ #[t] ty #[y]).run P w = .ok (.int .i64 i) w) :
    OpSem P T H ⟨d, .call { callee := .builtin .cap, args := #[x], argTypes := #[t] }, ty, ps, af, gd⟩ nm wr (.i64 i) [] :=
  .quiet fun E a w hop => by
    have hr := hop x (by simp [Op.operands, Call.operands]) _ hx
    exact ⟨.int .i64 i, by simp [execOp, resolve, invoke, builtin, h E _ w hr], .i64 _⟩
theorem op_cap_nil (ht : P.underlying t = some (.slice e)) (hx : aev T x = some .nilsl) :
    OpSem P T H ⟨d, .call { callee := .builtin .cap, args := #[x], argTypes := #[t] }, ty, ps, af, gd⟩ nm wr (.i64 0) [] :=
  op_cap_run hx fun E y w hr => by rw [hr.nilsl_inv]; simp [Builtin.cap_, run_underlying ht, goInt]
theorem op_cap_slk {cp : Nat} (ht : P.underlying t = some (.slice e)) (hx : aev T x = some (.slk b o n cp true)) :
    OpSem P T H ⟨d, .call { callee := .builtin .cap, args := #[x], argTypes := #[t] }, ty, ps, af, gd⟩ nm wr (.i64 (cp : Int)) [] :=
  op_cap_run hx fun E y w hr => by
    obtain ⟨l, s, c', _, _, _, h, _, _, rfl⟩ := hr.slk_inv
    rw [h rfl]; simp [Builtin.cap_, run_underlying ht, goInt]
theorem op_len_slk {cp : Nat} {ex : Bool} (ht : P.underlying t = some (.slice e)) (hx : aev T x = some (.slk b o n cp ex)) :
    OpSem P T H ⟨d, .call { callee := .builtin .len, args := #[x], argTypes := #[t] }, ty, ps, af, gd⟩ nm wr (.i64 (n : Int)) [] :=
  op_len_run hx fun E y w hr => by
    obtain ⟨l, s, c', _, _, _, _, _, _, rfl⟩ := hr.slk_inv
    simp [Builtin.len_, run_underlying ht, goInt]
/-- A slice of a slice whose capacity is known. -/
theorem op_slice_slk {lo hi : Option Operand} {l h cp : Nat} {ex : Bool} (ht : P.underlying t = some (.slice e)) (hz : (P.info? e).map (·.size) = some 1) (hx : aev T x = some (.slk b o n cp ex)) (hl : bnd T 0 lo l) (hh : bnd T n hi h) (h1 : l ≤ h) (h2 : h ≤ cp) (h3 : l < cp) :
    OpSem P T H ⟨d, .slice t x lo hi none, ty, ps, af, gd⟩ nm wr (.slk b (o + l) (h - l) (cp - l) ex) [] :=
  .quiet fun E a w hop => by
    obtain ⟨lc, s, c, g1, g0, g2, gx, g3, g4, g5⟩ := (hop x (by simp [Op.operands]) _ hx).slk_inv
    have hb := run_sliceBounds_ok (P := P) (sl := true) (cap := c) (fun q hq u hu => hop q (mem_slice q hq) u hu) hl hh h1 (by omega) w
    have hc : ¬ c = l := by omega
    refine ⟨.slice (some ⟨lc, o + l, none⟩) (h - l) (c - l), ?_, .slk _ _ _ _ (c - l) lc s _ g1 (by omega) (by omega) (fun hh => by rw [gx hh]) (by omega) (by omega)⟩
    simp [execOp, g5, Instr.sliceAt, Instr.slice, run_underlying ht, hb, run_sizeOf_is hz, hc, add_at]
theorem slk_sl {b o n cp : Nat} {ex : Bool} (E : Emb) (y : Value) (h : Rel E (.slk b o n cp ex) y) : Rel E (.sl b o n 1) y := by
  obtain ⟨l, s, c', h1, h2, h3, _, h4, h5, rfl⟩ := h.slk_inv
  exact .sl _ _ _ _ _ _ _ h1 (by omega) h4 (by omega)
theorem op_eqNilSl (ht : P.underlying t = some (.slice e)) (hx : aev T x = some .nilsl) : OpSem P T H ⟨d, .binOp .eql t x (.const (.slice none 0 0)) t', ty, ps, af, gd⟩ nm wr (.bool true) [] :=
  op_bin hx (show aev T (.const (.slice none 0 0)) = some .nilsl from rfl) fun E y1 y2 w h1 h2 => by
    rw [h1.nilsl_inv, h2.nilsl_inv]
    refine ⟨.bool true, ?_, .bool _⟩
    have e : (Op.equal t (.slice none 0 0) (.slice none 0 0)).run P w = .ok true w := by
      show (Op.equalIn (9999 + 1) t (.slice none 0 0) (.slice none 0 0)).run P w = .ok true w
      rw [Op.equalIn, Sem.run_bind, run_underlying ht, Result.andThen_ok]
      rfl
    have h3 : (eqGuard .eql t x (.const (.slice none 0 0)) (.slice none 0 0) (.slice none 0 0)).run P w = .ok () w := by cases x <;> rfl
    have h4 : (binOp .eql t (.slice none 0 0) (.slice none 0 0)).run P w = .ok (.bool true) w := by
      show ((Op.equal t (.slice none 0 0) (.slice none 0 0)) >>= fun r => pure (Value.bool r) : Sem Value).run P w = _
      rw [Sem.run_bind, e]; rfl
    rw [Sem.run_bind, h3]; exact h4
theorem op_eqSomeSl {cp : Nat} {ex : Bool} (ht : P.underlying t = some (.slice e)) (hx : aev T x = some (.slk b o n cp ex)) : OpSem P T H ⟨d, .binOp .eql t x (.const (.slice none 0 0)) t', ty, ps, af, gd⟩ nm wr (.bool false) [] :=
  op_bin hx (show aev T (.const (.slice none 0 0)) = some .nilsl from rfl) fun E y1 y2 w h1 h2 => by
    rw [h2.nilsl_inv]
    obtain ⟨l, s, c', _, _, _, _, _, _, rfl⟩ := h1.slk_inv
    refine ⟨.bool false, ?_, .bool _⟩
    have e : (Op.equal t (.slice (some ⟨l, o, none⟩) n c') (.slice none 0 0)).run P w = .ok false w := by
      show (Op.equalIn (9999 + 1) t (.slice (some ⟨l, o, none⟩) n c') (.slice none 0 0)).run P w = .ok false w
      rw [Op.equalIn, Sem.run_bind, run_underlying ht, Result.andThen_ok]
      rfl
    have h3 : (eqGuard .eql t x (.const (.slice none 0 0)) (.slice (some ⟨l, o, none⟩) n c') (.slice none 0 0)).run P w = .ok () w := by cases x <;> rfl
    have h4 : (binOp .eql t (.slice (some ⟨l, o, none⟩) n c') (.slice none 0 0)).run P w = .ok (.bool false) w := by
      show ((Op.equal t (.slice (some ⟨l, o, none⟩) n c') (.slice none 0 0)) >>= fun r => pure (Value.bool r) : Sem Value).run P w = _
      rw [Sem.run_bind, e]; rfl
    rw [Sem.run_bind, h3]; exact h4
/-- make([]byte, n, cp). -/
theorem op_makeCap {zv : Value} {jl jc : Int} {cp : Nat} (ht : P.underlying t = some (.slice e)) (hi : Inf P e 1 zv) (hx : aev T x = some (.i64 jl)) (hy : aev T y = some (.i64 jc)) (hl : jl = (n : Int)) (hcc : jc = (cp : Int)) (hn : n ≤ cp) (hcp : cp ≤ 1000000000)
    (hr0 : Rel Emb.nil u zv) (h1 : u.one = true) (hc : c.list = List.replicate cp u) (hm0 : c.isMap = false := by first | rfl | assumption | exact AV.map_parts (by assumption)) : OpSem P T H ⟨d, .makeSlice t x y, ty, ps, af, gd⟩ nm wr (.slk nm 0 n cp true) [(nm, some ⟨c, e, true⟩)] := by
  obtain ⟨ie, hi, hz, hsz, hby, _⟩ := hi
  exact .allocs fun E S a w h hR => by
    subst hl; subst hcc
    have e1 := (h x mem21 _ hx).i64_inv
    have e2 := (h y mem22 _ hy).i64_inv
    have hbb : (ie.bytes : Int) * (cp : Int) ≤ 281474976710656 := by
      have : ((ie.bytes * cp : Nat) : Int) ≤ ((64 * 1000000000 : Nat) : Int) := Int.ofNat_le.2 (Nat.mul_le_mul hby hcp)
      rw [Int.natCast_mul] at this; omega
    have hr := run_make (P := P) w t e ie zv ht hi hz .i64 .i64 n cp (by omega) (by omega) hbb (by omega)
    simp only [Int.toNat_natCast, hsz, Nat.mul_one] at hr
    have hr' := hr0.mono (Emb.nil_le E)
    have hone := hr0.one h1
    have hcells : zv.cells = #[zv] := by
      cases hq : zv <;> first | rfl | (rw [hq] at hone; cases hone)
    rw [hcells] at hr
    have htl := toList_madeCells_one zv cp
    refine ⟨_, madeCells #[zv] cp, (0, 0), w, by simp only [execOp, e1, e2, Sem.run_bind, hr]; rfl, rfl, rfl, rfl, rfl, (by first | exact DrOk.refl _ | exact (DrOk.refl _).drew | exact (DrOk.refl _).drew.drew), .slk _ _ _ _ _ _ _ _ (Emb.put_same _ _ _) hn (Nat.le_refl _) (fun _ => rfl) (by unfold maxLen; omega) (by rw [size_madeCells]; omega), FzOk.zero _ _, by rw [hc, size_madeCells]; simp, fun i q hq => ?_⟩
    rw [hc, List.getElem?_replicate] at hq
    split at hq
    · rename_i hi; injection hq with hq; subst hq
      refine ⟨h1, zv, ?_, hr'⟩
      rw [← Array.getElem?_toList, htl, List.getElem?_replicate, if_pos hi]
    · cases hq
end
end Go.Proofs.YtpmoonglbcglaaaDoor
namespace Go.Proofs.YtpmoonglbcglaaaDoor
open Go.RowKit
/-- What an operation does, in one of several ways. -/
def OpSemX (P : Program) (T : Nat → Option AV) (H : Hp) (o : Oper) (nm : Nat) (wr : Bool) (ι : Type) (v : ι → AV) (U : ι → List (Nat × Option ABlk)) : Prop :=
  ∀ (E : Emb) (S : Nat → Prop) (n0 : Nat) (H2 : Hp) (a : Act) (w : World),
    (∀ k, n0 ≤ k → S k) → n0 ≤ w.heap.size → 1000 ≤ nm → (∀ g, g < 400 → ∃ s, E g = some (g, s)) → (wr = true → H2 = H) → (∀ b k, H b = some k → H2 b = some k) →
    (∀ x ∈ o.op.operands, ∀ u, aev T x = some u → Rel E u (a.eval x)) → RH E S H2 w → (∀ b, nm ≤ b → b < nm + 8 → E b = none) →
    ∀ (K : Act → World → Prop) (Q : Exit → Act → World → Prop),
      (∀ i y w' E', (∀ b, (lk (U i) b = none ∨ ¬ (nm ≤ b ∧ b < nm + 8)) → E' b = E b) → Emb.dx S E E' → Rel E' (v i) y → RH E' S (upd (U i) H2) w' → Fr S w w' → K (a.put o.dst y) w') → o.wp P a w K Q
section
variable {P : Program} {nt : Nat} {st : St}
theorem evl_stepX {ops rest : List Oper} {post : St → Prop} {o : Oper} {ι : Type} {v : ι → AV} {U : ι → List (Nat × Option ABlk)} {wr : Bool} {d : Tmp}
    (hw : ∀ (E : Emb) (S : Nat → Prop) (n0 : Nat) (a : Act) (w : World), RS E S n0 nt st a w → Region.wanted o (yielded ops.toArray a.tmps) = true)
    (hd : o.dst = some d ∧ d < nt)
    (h : OpSemX P (lk st.T) (hget st.H) o st.nx wr ι v U) (hr : ∀ i, EvL P nt ops rest ⟨(d, v i) :: st.T, U i ++ st.H, st.nx + 8⟩ post) : EvL P nt ops (o :: rest) st post := by
  intro E S n0 a w Q hn hR hQ
  unfold wpList
  rw [if_pos (hw E S n0 a w hR)]
  refine .inl ?_
  refine h E S n0 (hget st.H) a w hR.hS hR.h0 hn hR.gl (fun _ => rfl) (fun _ _ h => h) (fun x _ u hu => hR.aev x u hu) hR.rh (fun b hb _ => hR.fr b hb) _ _ fun i y w' E' hE hX hv hH hF => ?_
  have hle : ∀ b p, E b = some p → E' b = some p := fun b p hp => by
    rw [hE b (.inr (fun hb => by rw [hR.fr b hb.1] at hp; cases hp))]; exact hp
  have base : RS E' S n0 nt ⟨st.T, U i ++ st.H, st.nx + 8⟩ a w' := by
    refine ⟨fun t u ht => (hR.rt t u ht).mono ⟨hle, hX.dle⟩, hR.nt, hR.df, by rw [← upd_hget]; exact hH, fun b hb => ?_, fun g hg => (hR.gl g hg).imp fun s hs => hle _ _ hs, hR.hS, Nat.le_trans hR.h0 hF.size⟩
    have hb' : st.nx + 8 ≤ b := hb
    rw [hE b (.inr (by omega))]; exact hR.fr b (by omega)
  have hR' : RS E' S n0 nt ⟨(d, v i) :: st.T, U i ++ st.H, st.nx + 8⟩ (a.put o.dst y) w' := by
    rw [hd.1]; exact base.put hd.2 hv
  have hlow : ∀ b, b < 1000 → E' b = E b := fun b hb => hE b (.inr (by omega))
  exact hr i E' S n0 (a.put o.dst y) w' Q (Nat.le_trans hn (Nat.le_add_right _ _)) hR' fun st' E'' a'' w'' h1 h2 h3 h4 h5 => hQ st' E'' a'' w'' h1 h2 (Emb.kp.trans ⟨hlow, hX⟩ h3) h4 (hF.trans h5)
variable {ops rest : List Oper} {post : St → Prop} {op : Op} {d : Tmp} {ty : TypeId} {ps : String} {af : Array Edge} {gd : Option (Nat × Bool)}
theorem EvL.ax {ι : Type} {v : ι → AV} {U : ι → List (Nat × Option ABlk)} (h : OpSemX P (lk st.T) (hget st.H) ⟨some d, op, ty, ps, af, gd⟩ st.nx true ι v U) (hg : Wants ops st.T gd) (hd : Nat.blt d nt = true) (hr : ∀ i, EvL P nt ops rest ⟨(d, v i) :: st.T, U i ++ st.H, st.nx + 8⟩ post) :
    EvL P nt ops (⟨some d, op, ty, ps, af, gd⟩ :: rest) st post :=
  evl_stepX (Wants.ok hg) ⟨rfl, blt_true hd⟩ h hr
end
/-- The places where an appended slice of ints may begin, and its block's cells. -/
def AppX (L : List Int) (o n : Nat) (cs : List Int) : Type := { p : Nat × List Int // p.2.length = p.1 + (n + cs.length) ∧ p.2.drop p.1 = L.drop o ++ cs }
section
variable {P : Program} {T : Nat → Option AV} {H : Hp} {nm : Nat} {wr : Bool} {d : Option Tmp} {ty : TypeId} {ps : String} {af : Array Edge} {gd : Option (Nat × Bool)} {t t2 e : TypeId} {x y : Operand} {b o n m : Nat} {L : List Int} {d2 : TypeDesc} {zv : Value}
end
end Go.Proofs.YtpmoonglbcglaaaDoor
namespace Go.Proofs.YtpmoonglbcglaaaDoor
open Go.RowKit
/-- A contract that ends in one of several ways. -/
def MeetsX (P : Program) (f : FuncId) (args : List AV) (H0 : List (Nat × Option ABlk)) (ι : Type) (v : ι → AV) (H1 : ι → List (Nat × Option ABlk)) : Prop :=
  ∀ (E : Emb) (S : Nat → Prop) (n0 : Nat) (vals : Array Value) (w : World), (∀ g, g < 400 → ∃ s, E g = some (g, s)) → (∀ b, 1000 ≤ b → E b = none) →
    args.length = vals.size → (∀ (i : Nat) x y, args[i]? = some x → vals[i]? = some y → Rel E x y) → RH E S (hget H0) w → (∀ k, n0 ≤ k → S k) → n0 ≤ w.heap.size →
    Calls P f vals w fun e w' => ∃ i y E', e = .returned y ∧ Emb.kp S E E' ∧ Rel E' (v i) y ∧ RH E' S (hget (H1 i)) w' ∧ Fr S w w'
theorem Meets.x {P : Program} {f : FuncId} {args : List AV} {H0 H1 : List (Nat × Option ABlk)} {v : AV} (h : Meets P f args H0 v H1) : MeetsX P f args H0 Unit (fun _ => v) (fun _ => H1) := by
  intro E S n0 vals w h1 h2 h3 h4 h5 h6 h7
  refine (h E S n0 vals w h1 h2 h3 h4 h5 h6 h7).mono fun e w' hh => ?_
  obtain ⟨y, E', hh⟩ := hh
  exact ⟨(), y, E', hh⟩
theorem MeetsX.imp {P : Program} {f : FuncId} {args : List AV} {H0 : List (Nat × Option ABlk)} {ι κ : Type} {v : ι → AV} {H1 : ι → List (Nat × Option ABlk)} {v' : κ → AV} {H1' : κ → List (Nat × Option ABlk)} (h : MeetsX P f args H0 ι v H1) (g : ι → κ) (hv : ∀ i, v i = v' (g i)) (hH : ∀ i, H1 i = H1' (g i)) : MeetsX P f args H0 κ v' H1' := by
  intro E S n0 vals w h1 h2 h3 h4 h5 h6 h7
  refine (h E S n0 vals w h1 h2 h3 h4 h5 h6 h7).mono fun e w' hh => ?_
  obtain ⟨i, y, E', q1, q2, q3, q4⟩ := hh
  exact ⟨g i, y, E', q1, q2, hv i ▸ q3, hH i ▸ q4⟩
theorem meetsX_of_ev {P : Program} {nt : Nat} {f : FuncId} {fn : Func} {c : Code} {args : List AV} {ι : Type} {H0 : List (Nat × Option ABlk)} {vS : ι → AV} {HS : ι → List (Nat × Option ABlk)} (hf : P.funcs[f]? = some fn) (hb : fn.body = some c) (hnt : fn.ntmps = nt) (hle : args.length ≤ nt)
    (h : Ev P nt c ⟨argT 0 args, H0, 1000⟩ (fun e st => ∃ i, RetOk P fn nt (vS i) (HS i) e st)) : MeetsX P f args H0 ι vS HS := by
  intro E S n0 vals w hg hfr hl hr hH hS h0
  refine calls_of_wp hf hb (wp_mono (h E S n0 _ w (Nat.le_refl _) ⟨fun t u ht => ?_, ?_, rfl, hH, hfr, hg, hS, h0⟩) fun e a' w' hD => ?_)
  · obtain ⟨_, h2⟩ := argT_spec args 0 t u ht
    rw [Nat.sub_zero] at h2
    have hlt : t < vals.size := by rw [← hl]; exact (List.getElem?_eq_some_iff.1 h2).1
    have e : (vals ++ Array.replicate (fn.ntmps - vals.size) undef).getD t undef = vals[t] := by
      rw [Array.getD_eq_getD_getElem?, Array.getElem?_append_left hlt, Array.getElem?_eq_getElem hlt]; rfl
    show Rel E u ((vals ++ Array.replicate (fn.ntmps - vals.size) undef).getD t undef)
    rw [e]
    exact hr t u _ h2 (Array.getElem?_eq_getElem hlt)
  · show (vals ++ Array.replicate (fn.ntmps - vals.size) undef).size = nt
    simp only [Array.size_append, Array.size_replicate]; omega
  · obtain ⟨st', E', ⟨_, ix, h1, h2, h3⟩, h4, h5, h6⟩ := hD
    obtain ⟨y, hy, hv⟩ := h3 E' S n0 a' w' h5
    have hB : bodyPost P fn (fun e w' => ∃ i y E', e = .returned y ∧ Emb.kp S E E' ∧ Rel E' (vS i) y ∧ RH E' S (hget (HS i)) w' ∧ Fr S w w') .ret a' w' :=
      ⟨h5.df, y, hy, ix, y, E', rfl, h4, hv, h5.rh.less h2, h6⟩
    rcases h1 with rfl | rfl <;> exact hB
section
variable {P : Program} {T : Nat → Option AV} {H : Hp} {nm : Nat} {d : Option Tmp} {ty : TypeId} {ps : String} {af : Array Edge} {gd : Option (Nat × Bool)}
theorem op_callOX {f : FuncId} {o : Oper} {args : List AV} {ι : Type} {H0 : List (Nat × Option ABlk)} {vS : ι → AV} {HS US : ι → List (Nat × Option ABlk)} {wr : Bool} (L N : List (Nat × Nat)) (hm : MeetsX P f args H0 ι vS HS)
    (hex : ∀ (E : Emb) (a : Act) (w : World), (∀ x ∈ o.op.operands, ∀ u, aev T x = some u → Rel E u (a.eval x)) → ∃ vals, (execOp a.eval o).run P w = .ok (.enter f vals) w ∧ args.length = vals.size ∧ ∀ (i : Nat) q yv, args[i]? = some q → vals[i]? = some yv → ∃ u, u.ren (backC L) = q ∧ nmOkC L u.names = true ∧ Rel E u yv)
    (hL : LOkC L = true) (hN : ∀ i, NOk N nm (US i) = true) (hH : HLeC H L H0) (hU : ∀ i, UOk L N H0 (HS i) (US i)) (hC : ∀ i, Cov L (US i) H0) (hv : ∀ i, nmOkF L N (vS i).names = true) :
    OpSemX P T H o nm wr ι (fun i => (vS i).ren (fwd L N)) US := by
  intro E S n0 H2 a w hS hn0 hnm hgl _ hle hop hR hfr K Q hK
  simp only [LOkC, Bool.and_eq_true, List.all_eq_true, decide_eq_true_eq] at hL
  obtain ⟨hL1, hL2⟩ := hL
  have hLk : ∀ c b, lk L c = some b → 500 ≤ c ∧ c < 1000 ∧ 500 ≤ b := fun c b h => by
    have := hL1 _ (lk_mem h)
    exact ⟨Nat.le_of_ble_eq_true this.1.1, blt_true this.1.2, Nat.le_of_ble_eq_true this.2⟩
  have hsrc : ∀ c b, srcC L c = some b → (c < 500 ∧ b = c) ∨ (500 ≤ c ∧ c < 1000 ∧ 500 ≤ b ∧ lk L c = some b) := fun c b h => by
    unfold srcC at h
    split at h
    · rename_i e; injection h with h; exact .inl ⟨blt_true e, h.symm⟩
    · exact .inr ⟨(hLk c b h).1, (hLk c b h).2.1, (hLk c b h).2.2, h⟩
  have sinj : ∀ c c' b, srcC L c = some b → srcC L c' = some b → c = c' := fun c c' b h1 h2 => by
    rcases hsrc c b h1 with ⟨q1, q2⟩ | ⟨q1, q2, q3, q4⟩ <;> rcases hsrc c' b h2 with ⟨r1, r2⟩ | ⟨r1, r2, r3, r4⟩
    · omega
    · omega
    · omega
    · exact lk_inj hL2 q4 r4
  let Ec : Emb := ⟨fun c => match srcC L c with | some b => E b | none => none, E.d⟩
  have hEc : ∀ c, Ec c = match srcC L c with | some b => E b | none => none := fun _ => rfl
  let Sc : Nat → Prop := fun l => (∃ c k s, hget H0 c = some k ∧ k.own = true ∧ Ec c = some (l, s)) ∨ w.heap.size ≤ l
  obtain ⟨vals, hrun, hlen, hargs⟩ := hex E a w hop
  -- the caller's block of a block of the called function's
  have hblk : ∀ c k2, hget H0 c = some k2 → ∃ b k, srcC L c = some b ∧ H2 b = some k ∧ k.c.ren (backC L) = k2.c ∧ ElemLe k k2 ∧ (k2.own = true → k.own = true) ∧ nmOkC L k.c.names = true := fun c k2 h => by
    obtain ⟨b, k, h1, h2, h3⟩ := hH.spec c k2 (hget_mem h)
    exact ⟨b, k, h1, hle b k h2, h3⟩
  have hlowC : (∀ b, b < 500 → ∀ p, E b = some p → Ec b = some p) ∧ E.dle Ec := ⟨fun b hb p hp => by
    have h1 : Nat.blt b 500 = true := Nat.ble_eq_true_of_le hb
    rw [hEc]; simpa [srcC, h1] using hp, fun _ _ h => h⟩
  have hRc : RH Ec Sc (hget H0) w := by
    refine ⟨fun c k2 h => ?_, fun c c' k2 k2' l s s' h1 h2 h3 h4 h5 => ?_, fun c k2 l s h1 h2 h3 => .inl ⟨c, k2, s, h1, h2, h3⟩, fun a L' s ha => ⟨(hR.deep a L' s ha).1, fun c k2 s' h1 h2 h3 => ?_⟩⟩
    · obtain ⟨b, k, g1, g2, g3, g4, g5, g6⟩ := hblk c k2 h
      obtain ⟨l, s, q1, q2⟩ := hR.blk b k g2
      refine ⟨l, s, by rw [hEc, g1]; exact q1, ?_⟩
      have := q2.ren (E' := Ec) (r := backC L) hlowC (fun b hb p hp => nmOkC_spec g6 b hb p hp) k2.own g5 g4.lose
      rw [g3, g4.elem] at this
      exact this
    · obtain ⟨b, k, g1, g2, _, _, g5, _⟩ := hblk c k2 h1
      obtain ⟨b', k', g1', g2', _, _, _, _⟩ := hblk c' k2' h2
      rw [hEc, g1] at h4
      rw [hEc, g1'] at h5
      have e := hR.inj b b' k k' l s s' g2 g2' (g5 h3) h4 h5
      subst e
      exact sinj c c' b g1 g1'
    · obtain ⟨b, k, g1, g2, _, _, g5, _⟩ := hblk c k2 h1
      rw [hEc, g1] at h3
      exact (hR.deep a L' s ha).2 b k s' g2 (g5 h2) h3
  have hcall := hm Ec Sc w.heap.size vals w (fun g hg => by
      have : Nat.blt g 500 = true := Nat.ble_eq_true_of_le (show g + 1 ≤ 500 by omega)
      rw [hEc]; simp only [srcC, this]; exact hgl g hg)
    (fun c hc => by
      have h1 : Nat.blt c 500 = false := by
        cases hq : Nat.blt c 500 with
        | false => rfl
        | true => have := blt_true hq; omega
      have h2 : lk L c = none := by
        cases hl : lk L c with
        | none => rfl
        | some x => have := hLk c x hl; omega
      rw [hEc]; simp [srcC, h1, h2])
    hlen (fun i q yv hq hy => by
      obtain ⟨u, rfl, h3, this⟩ := hargs i q yv hq hy
      exact this.ren hlowC fun b hb p hp => nmOkC_spec h3 b hb p hp)
    hRc (fun k hk => .inr hk) (Nat.le_refl _)
  unfold Oper.wp
  rw [hrun, Oper.upon_enter]
  refine hcall.mono fun ed w' hD => ?_
  obtain ⟨ix, y, E', rfl, hpin, hrel, hR', hF⟩ := hD
  replace hK := hK ix
  replace hN := hN ix
  replace hU := hU ix
  replace hC := hC ix
  replace hv := hv ix
  dsimp only at hK
  generalize US ix = U at hK hN hU hC
  generalize vS ix = v0 at hK hrel hv
  generalize HS ix = H1 at hU hR'
  simp only [NOk, List.all_eq_true, Bool.and_eq_true, decide_eq_true_eq] at hN
  obtain ⟨hN, hN2⟩ := hN
  have hNk : ∀ b c, lk N b = some c → nm ≤ b ∧ b < nm + 8 ∧ 1000 ≤ c ∧ (lk U b).isSome = true := fun b c h => by
    have := hN _ (lk_mem h)
    exact ⟨Nat.le_of_ble_eq_true this.1.1.1, blt_true this.1.1.2, Nat.le_of_ble_eq_true this.1.2, this.2⟩
  let E2 : Emb := ⟨fun b => match lk N b with | some c => E' c | none => E b, E'.d⟩
  have hE2 : ∀ b, E2 b = match lk N b with | some c => E' c | none => E b := fun _ => rfl
  have hE2old : ∀ b p, E b = some p → E2 b = some p := fun b p hp => by
    rw [hE2]
    cases hl : lk N b with
    | none => exact hp
    | some c => have := hNk b c hl; rw [hfr b this.1 this.2.1] at hp; cases hp
  have hfwd : ∀ ns, nmOkF L N ns = true → ∀ c ∈ ns, ∀ p, E' c = some p → E2 (fwd L N c) = some p := by
    intro ns
    induction ns with
    | nil => intro _ c hc; cases hc
    | cons n ns ih =>
      intro h c hc p hp
      simp only [nmOkF, Bool.and_eq_true] at h
      rcases List.mem_cons.1 hc with rfl | hc
      · have h1 := h.1
        cases hs : srcC L c with
        | some b =>
          rw [hs] at h1
          have hlt := blt_true h1
          have : E b = some p := by rw [hpin.1 c hlt, hEc, hs] at hp; exact hp
          have e : fwd L N c = b := by simp [fwd, hs]
          rw [e]; exact hE2old b p this
        | none =>
          rw [hs] at h1
          simp only at h1
          cases hl : lk N (fwd L N c) with
          | none => rw [hl] at h1; cases h1
          | some c' =>
            rw [hl] at h1
            have e := Nat.eq_of_beq_eq_true h1; subst e
            rw [hE2, hl]; exact hp
      · exact ih h.2 c hc p hp
  -- a block that is written is given anew
  have hown : ∀ b k l s, H2 b = some k → E b = some (l, s) → lk U b = none → ¬ Sc l := fun b k l s hk he hu hs => by
    obtain ⟨l', s', q1, q2⟩ := hR.blk b k hk
    rw [he] at q1; injection q1 with q1; injection q1 with q1 _; subst q1
    rcases hs with ⟨c, k2, s2, h1, h2, h3⟩ | hs
    · obtain ⟨b', q, h4, h5⟩ := hC.spec c k2 (hget_mem h1) h2
      obtain ⟨b2, k3, g1, g2, _, _, g5, _⟩ := hblk c k2 h1
      have hb2 : b2 = b' := by
        rcases hsrc c b2 g1 with ⟨r1, r2⟩ | ⟨_, _, _, r4⟩
        · have := hLk c b' h4; omega
        · rw [h4] at r4; injection r4 with r4; exact r4.symm
      subst hb2
      rw [hEc, g1] at h3
      have := hR.inj b2 b k3 k l s2 s g2 hk (g5 h2) h3 he
      subst this
      rw [hu] at h5; cases h5
    · have := q2.lt; omega
  have hSc : ∀ l, Sc l → S l := fun l hs => by
    rcases hs with ⟨c, k2, s2, h1, h2, h3⟩ | hs
    · obtain ⟨b2, k3, g1, g2, _, _, g5, _⟩ := hblk c k2 h1
      rw [hEc, g1] at h3
      exact hR.own b2 k3 l s2 g2 (g5 h2) h3
    · exact hS l (by omega)
  -- what a name given anew stands for
  have hnew : ∀ b k', lk U b = some (some k') → ∃ c k l s, hget H1 c = some k ∧ (k.own = true ∨ ∃ k0, lk L c = some b ∧ hget H0 c = some k0) ∧ k' = ⟨k.c.ren (fwd L N), k.elem, k.own⟩ ∧ nmOkF L N k.c.names = true ∧ E' c = some (l, s) ∧ E2 b = some (l, s) ∧ KAt E' k w' l s ∧ (lk N b = some c ∨ lk L c = some b) := fun b k' hu => by
    obtain ⟨c, k, h1, h2, h3, h4, h5⟩ := hU.spec b k' (lk_mem hu)
    obtain ⟨l, s, h6, h7⟩ := hR'.blk c k h1
    have h3' : k.own = true ∨ ∃ k0, lk L c = some b ∧ hget H0 c = some k0 := by
      cases ho : k.own with
      | true => exact .inl rfl
      | false =>
        right
        rw [ho] at h3
        rcases h5 with h5 | ⟨h5, k0, h9, _⟩
        · have i1 := hNk b c h5
          cases hl : lk L c with
          | none => rw [hl] at h3; cases h3
          | some x => have := hLk c x hl; omega
        · exact ⟨k0, h5, h9⟩
    refine ⟨c, k, l, s, h1, h3', h2, h4, h6, ?_, h7, h5.imp id And.left⟩
    rcases h5 with h5 | ⟨h5, _⟩
    · rw [hE2, h5]; exact h6
    · have hc := hLk c b h5
      have hs : srcC L c = some b := by
        have : Nat.blt c 500 = false := by
          cases hq : Nat.blt c 500 with
          | false => rfl
          | true => have := blt_true hq; omega
        simp only [srcC, this]; exact h5
      have h8 : E b = some (l, s) := by rw [hpin.1 c hc.2.1, hEc, hs] at h6; exact h6
      exact hE2old b _ h8
  have hupd : ∀ b k, upd U H2 b = some k → lk U b = some (some k) ∨ (lk U b = none ∧ H2 b = some k) := fun b k h => by
    simp only [upd] at h
    cases hu : lk U b with
    | none => rw [hu] at h; exact .inr ⟨rfl, h⟩
    | some q => rw [hu] at h; subst h; exact .inl rfl
  have hold : ∀ b k, H2 b = some k → lk U b = none → ∃ l s, E b = some (l, s) ∧ E2 b = some (l, s) ∧ KAt E2 k w' l s ∧ l < w.heap.size ∧ ¬ Sc l := fun b k hk hu => by
    obtain ⟨l, s, q1, q2⟩ := hR.blk b k hk
    have hn := hown b k l s hk q1 hu
    exact ⟨l, s, q1, hE2old b _ q1, q2.mono ⟨hE2old, hpin.2.dle⟩ (hF.block l q2.lt hn), q2.lt, hn⟩
  have hlow2 : (∀ b, b < 500 → ∀ p, E' b = some p → E2 b = some p) ∧ E'.dle E2 := ⟨fun b hb p hp => by
    have h1 : Nat.blt b 500 = true := Nat.ble_eq_true_of_le hb
    rw [hpin.1 b (by omega), hEc] at hp
    exact hE2old b p (by simpa [srcC, h1] using hp), fun _ _ h => h⟩
  refine hK y w' E2 (fun b hb => ?_) (fun a => (hpin.2 a).imp id fun h => ⟨h.1, hSc a h.2⟩) (hrel.ren hlow2 fun c hc p hp => hfwd _ hv c hc p hp) ⟨fun b k h => ?_, fun b b' k k' l s s' h1 h2 h3 h4 h5 => ?_, fun b k l s h1 h2 h3 => ?_, fun a L' s ha => ⟨(hR'.deep a L' s ha).1, fun b k s' h1 h2 h3 => ?_⟩⟩ (hF.mono fun k hk hs => hSc k hs)
  rotate_right 1
  · rcases hupd b k h1 with hu | ⟨hu, hk⟩
    · obtain ⟨c, kc, l1, s1, g1, _, e0, _, g5, g6, _, _⟩ := hnew b k hu
      have g2 : kc.own = true := by rw [e0] at h2; exact h2
      rw [h3] at g6; injection g6 with g6; injection g6 with e1 e2; subst e1; subst e2
      exact (hR'.deep a L' s ha).2 c kc s' g1 g2 g5
    · obtain ⟨l, s1, q1, q2, _, _, q5⟩ := hold b k hk hu
      rw [h3] at q2; injection q2 with q2; injection q2 with e1 e2; subst e1; subst e2
      rcases hpin.2 a with e | ⟨_, e⟩
      · exact (hR.deep a L' s (by rw [← ha]; exact e.symm)).2 b k s' hk h2 q1
      · exact q5 e
  · rw [hE2]
    cases hl : lk N b with
    | none => rfl
    | some c =>
      have := hNk b c hl
      rcases hb with hb | hb
      · rw [hb] at this; simp at this
      · exact absurd ⟨this.1, this.2.1⟩ hb
  · rcases hupd b k h with hu | ⟨hu, hk⟩
    · obtain ⟨c, kc, l, s, h1, h2, rfl, h4, h5, h6, h7, _⟩ := hnew b k hu
      exact ⟨l, s, h6, h7.ren hlow2 (fun c hc p hp => hfwd _ h4 c hc p hp) kc.own (fun h => h) (fun h1 h2 => by rw [h1] at h2; cases h2)⟩
    · obtain ⟨l, s, _, q2, q3, _⟩ := hold b k hk hu
      exact ⟨l, s, q2, q3⟩
  · rcases hupd b k h1 with hu | ⟨hu, hk⟩ <;> rcases hupd b' k' h2 with hu' | ⟨hu', hk'⟩
    · obtain ⟨c, kc, l1, s1, g1, _, e0, _, g5, g6, _, g8⟩ := hnew b k hu
      have g2 : kc.own = true := by rw [e0] at h3; exact h3
      obtain ⟨c', kc', l1', s1', g1', g2', _, _, g5', g6', _, g8'⟩ := hnew b' k' hu'
      rw [h4] at g6; injection g6 with g6; injection g6 with e1 e2; subst e1; subst e2
      rw [h5] at g6'; injection g6' with g6'; injection g6' with e1 e2; subst e1; subst e2
      have e := hR'.inj c c' kc kc' l s s' g1 g1' g2 g5 g5'
      subst e
      rcases g8 with g8 | g8 <;> rcases g8' with g8' | g8'
      · exact lk_inj hN2 g8 g8'
      · have i1 := hNk b c g8; have i2 := hLk c b' g8'; omega
      · have i1 := hNk b' c g8'; have i2 := hLk c b g8; omega
      · rw [g8] at g8'; injection g8'
    · obtain ⟨c, kc, l1, s1, g1, _, e0, _, g5, g6, _, g8⟩ := hnew b k hu
      have g2 : kc.own = true := by rw [e0] at h3; exact h3
      obtain ⟨l2, s2, q1, q2, _, q4, q5⟩ := hold b' k' hk' hu'
      rw [h4] at g6; injection g6 with g6; injection g6 with e1 e2; subst e1; subst e2
      rw [h5] at q2; injection q2 with q2; injection q2 with e1 e2; subst e1; subst e2
      exact absurd (hR'.own c kc l s g1 g2 g5) q5
    · obtain ⟨c, kc, l1, s1, g1, g2, _, _, g5, g6, _, g8⟩ := hnew b' k' hu'
      obtain ⟨l2, s2, q1, q2, _, q4, q5⟩ := hold b k hk hu
      rw [h5] at g6; injection g6 with g6; injection g6 with e1 e2; subst e1; subst e2
      rw [h4] at q2; injection q2 with q2; injection q2 with e1 e2; subst e1; subst e2
      rcases g2 with g2 | ⟨k0, g2, g3⟩
      · exact absurd (hR'.own c kc l s' g1 g2 g5) q5
      · obtain ⟨b2, k3, f1, f2, _⟩ := hblk c k0 g3
        have hb2 : b2 = b' := by
          rcases hsrc c b2 f1 with ⟨r1, r2⟩ | ⟨_, _, _, r4⟩
          · have := hLk c b' g2; omega
          · rw [g2] at r4; injection r4 with r4; exact r4.symm
        subst hb2
        obtain ⟨l3, s3, p1, _⟩ := hR.blk b2 k3 f2
        have p2 := hE2old b2 _ p1
        rw [h5] at p2; injection p2 with p2; injection p2 with p3 p4; subst p3; subst p4
        have e := hR.inj b b2 k k3 l s s' hk f2 h3 q1 p1
        subst e
        rw [hu] at hu'
    · obtain ⟨l1, s1, q1, q2, _⟩ := hold b k hk hu
      obtain ⟨l2, s2, r1, r2, _⟩ := hold b' k' hk' hu'
      rw [h4] at q2; injection q2 with q2; injection q2 with e1 e2; subst e1; subst e2
      rw [h5] at r2; injection r2 with r2; injection r2 with e1 e2; subst e1; subst e2
      exact hR.inj b b' k k' l s s' hk hk' h3 q1 r1
  · rcases hupd b k h1 with hu | ⟨hu, hk⟩
    · obtain ⟨c, kc, l1, s1, g1, _, e0, _, g5, g6, _, g8⟩ := hnew b k hu
      have g2 : kc.own = true := by rw [e0] at h2; exact h2
      rw [h3] at g6; injection g6 with g6; injection g6 with e1 e2; subst e1; subst e2
      exact hSc l (hR'.own c kc l s g1 g2 g5)
    · obtain ⟨l1, s1, q1, q2, _⟩ := hold b k hk hu
      rw [h3] at q2; injection q2 with q2; injection q2 with e1 e2; subst e1; subst e2
      exact hR.own b k l s hk h2 q1
theorem op_callX {f : FuncId} {fn : Func} {cc : Code} {xs : Array Operand} {ts : Array TypeId} {args : List AV} {ι : Type} {H0 : List (Nat × Option ABlk)} {vS : ι → AV} {HS US : ι → List (Nat × Option ABlk)} {wr : Bool} (L N : List (Nat × Nat)) (hm : MeetsX P f args H0 ι vS HS)
    (hf : P.funcs[f]? = some fn) (hname : (fn.name == "runtime.NumGoroutine") = false) (hb : fn.body = some cc)
    (hL : LOkC L = true) (hN : ∀ i, NOk N nm (US i) = true) (ha : ArgsOk T L xs.toList args) (hH : HLeC H L H0) (hU : ∀ i, UOk L N H0 (HS i) (US i)) (hC : ∀ i, Cov L (US i) H0) (hv : ∀ i, nmOkF L N (vS i).names = true) :
    OpSemX P T H ⟨d, .call { callee := .value (.func f), args := xs, argTypes := ts }, ty, ps, af, gd⟩ nm wr ι (fun i => (vS i).ren (fwd L N)) US := by
  refine op_callOX L N hm (fun E a w hop => ?_) hL hN hH hU hC hv
  obtain ⟨hlen, hargs⟩ := ha.spec
  refine ⟨xs.map a.eval, ?_, by simp [hlen], fun i q yv hq hy => ?_⟩
  · have h1 : fn.name ≠ "runtime.NumGoroutine" := by simpa using hname
    have hcf : (callFunc f (xs.map a.eval)).run P w = .ok (.enter f (xs.map a.eval)) w := by simp [callFunc, hf, h1, hb]
    simp [execOp, resolve, invoke, Act.eval, Deferred.ofValue, hcf]
  · have hi : i < args.length := (List.getElem?_eq_some_iff.1 hq).1
    have hi2 : i < xs.toList.length := by omega
    obtain ⟨u, h1, rfl, h3⟩ := hargs i q xs.toList[i] hq (List.getElem?_eq_getElem hi2)
    have hi3 : i < xs.size := by simpa using hi2
    have hy' : yv = a.eval xs[i] := by
      rw [Array.getElem?_map, Array.getElem?_eq_getElem hi3] at hy
      simpa using hy.symm
    subst hy'
    exact ⟨u, rfl, h3, hop xs[i] (by simp [Op.operands, Call.operands]) u (by simpa using h1)⟩
end
end Go.Proofs.YtpmoonglbcglaaaDoor
namespace Go.Proofs.YtpmoonglbcglaaaDoor
open Go.RowKit
section
variable {P : Program} {T : Nat → Option AV} {H : Hp} {nm : Nat} {wr : Bool} {d : Option Tmp} {ty t : TypeId} {ps : String} {af : Array Edge} {gd : Option (Nat × Bool)} {x y : Operand}
end
/-- The places where an appended slice of bytes may begin, and its block's cells. -/
def AppB (L : List UInt8) (o n : Nat) (cs : List UInt8) : Type := { p : Nat × List UInt8 // p.2.length = p.1 + (n + cs.length) ∧ p.2.drop p.1 = L.drop o ++ cs ∧ p.1 ≤ o }
section
variable {P : Program} {T : Nat → Option AV} {H : Hp} {nm : Nat} {wr : Bool} {d : Option Tmp} {ty : TypeId} {ps : String} {af : Array Edge} {gd : Option (Nat × Bool)} {t t2 e : TypeId} {x y : Operand} {b o n m : Nat} {L : List UInt8} {d2 : TypeDesc} {zv : Value}
end
end Go.Proofs.YtpmoonglbcglaaaDoor
namespace Go.Proofs.YtpmoonglbcglaaaDoor
open Go.RowKit
section
variable {P : Program} {T T1 : Nat → Option AV} {H : Hp} {nm : Nat} {wr : Bool} {v c' : AV} {U : List (Nat × Option ABlk)} {o : Oper} {d : Option Tmp} {ty t t2 e : TypeId} {ps : String} {af : Array Edge} {gd : Option (Nat × Bool)} {x y : Operand} {b f n m cp s : Nat} {ex : Bool} {k : ABlk}
theorem OpSem.asR (h : OpSem P T1 H o nm wr v U) (hT : ∀ x ∈ o.op.operands, ∀ u, aev T1 x = some u → ∃ u2, aev T x = some u2 ∧ ∀ E y, Rel E u2 y → Rel E u y) : OpSem P T H o nm wr v U :=
  fun E S n0 H2 a w a1 a2 a3 a4 a5 a6 hop a7 a8 => h E S n0 H2 a w a1 a2 a3 a4 a5 a6 (fun x hx u hu => by
    obtain ⟨u2, h1, h2⟩ := hT x hx u hu
    exact h2 _ _ (hop x hx u2 h1)) a7 a8
/-- One slot written in a weaker way. -/
def upT (T : Nat → Option AV) (s : Nat) (u : AV) : Nat → Option AV := fun q => if q = s then some u else T q
theorem upT_same (T : Nat → Option AV) (s : Nat) (u : AV) : upT T s u s = some u := by simp [upT]
theorem upT_weak {u u2 : AV} (hs : T s = some u2) (hr : ∀ E y, Rel E u2 y → Rel E u y) (x : Operand) (w : AV) (hx : aev (upT T s u) x = some w) : ∃ u2, aev T x = some u2 ∧ ∀ E y, Rel E u2 y → Rel E w y := by
  cases x with
  | tmp q =>
    simp only [Go.Proofs.YtpmoonglbcglaaaDoor.aev, upT] at hx ⊢
    split at hx
    · rename_i e; subst e; injection hx with hx; subst hx; exact ⟨u2, hs, hr⟩
    · exact ⟨w, hx, fun _ _ h => h⟩
  | const c => exact ⟨w, hx, fun _ _ h => h⟩
  | global g => exact ⟨w, hx, fun _ _ h => h⟩
  | func f => exact ⟨w, hx, fun _ _ h => h⟩
/-- A part of a slice whose capacity is known, which may be empty at its end. -/
theorem op_slice_slkS {lo hi : Option Operand} {l h : Nat} (ht : P.underlying t = some (.slice e)) (hz : (P.info? e).map (·.size) = some 1) (hx : aev T x = some (.slk b f n cp ex)) (hl : bnd T 0 lo l) (hh : bnd T n hi h) (h1 : l ≤ h) (h2 : h ≤ cp) :
    OpSem P T H ⟨d, .slice t x lo hi none, ty, ps, af, gd⟩ nm wr (.sl b (f + l) (h - l) 1) [] :=
  .quiet fun E a w hop => by
    obtain ⟨lc, s, c, g1, g0, g2, gx, g3, g4, g5⟩ := (hop x (by simp [Op.operands]) _ hx).slk_inv
    have hb := run_sliceBounds_ok (P := P) (sl := true) (cap := c) (fun q hq u hu => hop q (mem_slice q hq) u hu) hl hh h1 (by omega) w
    by_cases hc : c = l
    · subst hc
      refine ⟨.slice (some ⟨lc, f, none⟩) (h - c) (c - c), ?_, ?_⟩
      · simp [execOp, g5, Instr.sliceAt, Instr.slice, run_underlying ht, hb, run_sizeOf_is hz]
      · rw [show h - c = 0 by omega, show c - c = 0 by omega]; exact .sl0 _ _ _ _
    · refine ⟨.slice (some ⟨lc, f + l, none⟩) (h - l) (c - l), ?_, .sl _ _ _ _ lc s _ g1 (by omega) (by omega) (by omega)⟩
      simp [execOp, g5, Instr.sliceAt, Instr.slice, run_underlying ht, hb, run_sizeOf_is hz, hc, add_at]
theorem op_slice_nil {lo hi : Option Operand} (ht : P.underlying t = some (.slice e)) (hz : (P.info? e).map (·.size) = some 1) (hx : aev T x = some .nilsl) (hl : bnd T 0 lo 0) (hh : bnd T 0 hi 0) :
    OpSem P T H ⟨d, .slice t x lo hi none, ty, ps, af, gd⟩ nm wr .nilsl [] :=
  .quiet fun E a w hop => by
    have e1 := (hop x (by simp [Op.operands]) _ hx).nilsl_inv
    have hb := run_sliceBounds_ok (P := P) (sl := true) (cap := 0) (fun q hq u hu => hop q (mem_slice q hq) u hu) hl hh (Nat.le_refl _) (Nat.le_refl _) w
    exact ⟨.slice none 0 0, by simp [execOp, e1, Instr.sliceAt, Instr.slice, run_underlying ht, hb, run_sizeOf_is hz], .nilsl⟩
/-- copy onto a slice whose capacity is known. -/
theorem op_copyK {cs : List AV} {q : Nat} (ht : P.underlying t = some (.slice e)) (hsz : (P.info? e).map (·.size) = some 1) (hx : T s = some (.slk b f n cp ex)) (hk : H b = some k) (hown : k.own = true) (hs : Srcs P (upT T s (.sl b f n 1)) H y 1 m cs) (ho : f + n ≤ k.c.len) (hq : q = min m n)
    (hc : c'.list = k.c.list.take f ++ cs.take q ++ k.c.list.drop (f + q)) (hm0 : c'.isMap = false := by first | rfl | assumption | exact AV.map_parts (by assumption)) (hm1 : k.c.isMap = false := by first | rfl | assumption | exact AV.map_parts (by assumption)) : OpSem P T H ⟨d, .call { callee := .builtin .copy, args := #[.tmp s, y], argTypes := #[t, t2] }, ty, ps, af, gd⟩ nm wr (.i64 (q : Int)) [(b, some { k with c := c' })] :=
  OpSem.asR (op_copy (T := upT T s (.sl b f n 1)) ht hsz (show aev (upT T s (.sl b f n 1)) (.tmp s) = some (.sl b f n 1) from upT_same _ _ _) hk hown hs ho hq hc) (fun x _ w hw => upT_weak hx slk_sl x w hw)
/-- copy of nothing onto nothing. -/
theorem op_copy_nil (ht : P.underlying t = some (.slice e)) (hsz : (P.info? e).map (·.size) = some 1) (hx : aev T x = some .nilsl) (hy : aev T y = some (.str [])) :
    OpSem P T H ⟨d, .call { callee := .builtin .copy, args := #[x, y], argTypes := #[t, t2] }, ty, ps, af, gd⟩ nm wr (.i64 0) [] :=
  .quiet fun E a w hop => by
    have e1 := (hop x (by simp [Op.operands, Call.operands]) _ hx).nilsl_inv
    have e2 := (hop y (by simp [Op.operands, Call.operands]) _ hy).str_inv
    refine ⟨.int .i64 0, ?_, .i64 _⟩
    have h := Lib.run_copy_empty_string (P := P) w t t2 ty e none 0 0 ⟨#[]⟩ ht (by rw [hsz]; rfl) rfl
    have e3 : a.eval y = .string ⟨#[]⟩ := e2
    have h2 : (Builtin.copy_ #[t, t2] ty #[a.eval x, a.eval y]).run P w = .ok (.int .i64 0) w := by rw [e1, e3]; exact h
    simp [execOp, resolve, invoke, builtin, h2]
end
end Go.Proofs.YtpmoonglbcglaaaDoor
namespace Go.Proofs.YtpmoonglbcglaaaDoor
open Go.RowKit
/-- A slice that is nil if it has no element, else all of block b. -/
def slO (b n z : Nat) : AV := match n with
  | 0 => .nilsl
  | m + 1 => .sl b 0 (m + 1) z
/-- Its block: none if it has no element. -/
def opt (c : AV) (n : Nat) (t : TypeId) : Option ABlk := match n with
  | 0 => none
  | _ + 1 => some ⟨c, t, true⟩
/-- An entry of which it is not said whether it is there. -/
theorem HLe.oc {F : Hp} {L : List (Nat × Nat)} {c : Nat} {o : Option ABlk} {r : List (Nat × Option ABlk)} (h : ∀ k2, o = some k2 → ∃ b k, src L c = some b ∧ F b = some k ∧ k.c.ren (back L) = k2.c ∧ ElemLe k k2 ∧ (k2.own = true → k.own = true) ∧ nmOk L k.c.names = true) (hr : HLe F L r) : HLe F L ((c, o) :: r) := by
  cases o with
  | none => exact hr
  | some k => exact ⟨h k rfl, hr⟩
theorem HLeC.oc {F : Hp} {L : List (Nat × Nat)} {c : Nat} {o : Option ABlk} {r : List (Nat × Option ABlk)} (h : ∀ k2, o = some k2 → ∃ b k, srcC L c = some b ∧ F b = some k ∧ k.c.ren (backC L) = k2.c ∧ ElemLe k k2 ∧ (k2.own = true → k.own = true) ∧ nmOkC L k.c.names = true) (hr : HLeC F L r) : HLeC F L ((c, o) :: r) := by
  cases o with
  | none => exact hr
  | some k => exact ⟨h k rfl, hr⟩
theorem Cov.oc {L : List (Nat × Nat)} {U : List (Nat × Option ABlk)} {c : Nat} {o : Option ABlk} {r : List (Nat × Option ABlk)} (h : ∃ b q, lk L c = some b ∧ lk U b = some q) (hr : Cov L U r) : Cov L U ((c, o) :: r) := by
  cases o with
  | none => exact hr
  | some k => exact ⟨fun _ => h, hr⟩
section
variable {P : Program} {T : Nat → Option AV} {H : Hp} {nm : Nat} {wr : Bool} {d : Option Tmp} {ty : TypeId} {ps : String} {af : Array Edge} {gd : Option (Nat × Bool)} {t t2 e : TypeId} {x y : Operand} {b n z m : Nat} {d2 : TypeDesc} {zv : Value} {c c' : AV} {cs : List AV}
/-- What is known of one more name may be forgotten. -/
theorem OpSem.drop {o : Oper} {v : AV} {U : List (Nat × Option ABlk)} (h : OpSem P T H o nm wr v U) (hb : b < nm) : OpSem P T H o nm wr v (U ++ [(b, none)]) := by
  intro E S n0 H2 a w h1 h2 h3 h4 h5 h6 h7 h8 h9 K Q hK
  refine h E S n0 H2 a w h1 h2 h3 h4 h5 h6 h7 h8 h9 K Q fun y w' E' g1 g2 g3 g4 g5 => hK y w' E' (fun r hr => g1 r ?_) g2 g3 (g4.less fun q k hq => ?_) g5
  · rw [lk_append] at hr
    rcases hr with hr | hr
    · cases hl : lk U r with
      | none => exact .inl rfl
      | some q => rw [hl] at hr; cases hr
    · exact .inr hr
  · simp only [upd, lk_append] at hq ⊢
    cases hl : lk U q with
    | some r => rw [hl] at hq; exact hq
    | none =>
      rw [hl] at hq
      simp only [Option.none_or, lk] at hq
      split at hq
      · rename_i r hr
        split at hr
        · injection hr with hr; subst hr; cases hq
        · cases hr
      · exact hq
end
end Go.Proofs.YtpmoonglbcglaaaDoor
