/-
  Texts of this claim.
-/
import Derived.Lib.MakeNoZero
import Derived.Test.YticickigndgpcaaDoorGEA
namespace Go.Proofs.YticickigndgpcaaDoor
open Go.RowKit
section
variable {P : Program} {T : Nat → Option AV} {H : Hp} {nm : Nat} {wr : Bool} {v u c c' : AV} {d : Option Tmp} {ty : TypeId} {ps : String} {af : Array Edge} {gd : Option (Nat × Bool)} {t t' t2 e : TypeId} {x y z : Operand} {b o n : Nat} {k : ABlk} {ts : Array TypeId}
end
end Go.Proofs.YticickigndgpcaaDoor
namespace Go.Proofs.YticickigndgpcaaDoor
open Go.RowKit
def OpSemX (P : Program) (T : Nat → Option AV) (H : Hp) (o : Oper) (nm : Nat) (wr : Bool) (ι : Type) (v : ι → AV) (U : ι → List (Nat × Option ABlk)) : Prop :=
  ∀ (E : Emb) (S : Nat → Prop) (n0 : Nat) (H2 : Hp) (a : Act) (w : World),
    (∀ k, n0 ≤ k → S k) → n0 ≤ w.heap.size → 1000 ≤ nm → (∀ g, g < 400 → ∃ s, E g = some (g, s)) → (wr = true → H2 = H) → (∀ b k, H b = some k → H2 b = some k) →
    (∀ x ∈ o.op.operands, ∀ u, aev T x = some u → Rel E u (a.eval x)) → RH E S H2 w → (∀ b, nm ≤ b → b < nm + 8 → E b = none) →
    ∀ (K : Act → World → Prop) (Q : Exit → Act → World → Prop),
      (∀ i y w' E', (∀ b, (lk (U i) b = none ∨ ¬ (nm ≤ b ∧ b < nm + 8)) → E' b = E b) → Emb.dx S E E' → Rel E' (v i) y → RH E' S (upd (U i) H2) w' → Fr S w w' → K (a.put o.dst y) w') → o.wp P a w K Q
section
variable {P : Program} {nt : Nat} {st : St}
theorem evl_stepX {ops rest : List Oper} {post : St → Prop} {o : Oper} {ι : Type} {v : ι → AV} {U : ι → List (Nat × Option ABlk)} {wr : Bool} {d : Tmp}
    (hw : ∀ (E : Emb) (S : Nat → Prop) (n0 : Nat) (a : Act) (w : World), RS E S n0 nt st a w → Region.wanted o (yielded ops.toArray a.tmps) = true)
    (hd : o.dst = some d ∧ d < nt)
    (h : OpSemX P (lk st.T) (hget st.H) o st.nx wr ι v U) (hr : ∀ i, EvL P nt ops rest ⟨(d, v i) :: st.T, U i ++ st.H, st.nx + 8⟩ post) : EvL P nt ops (o :: rest) st post := by
  intro E S n0 a w Q hn hR hQ
  unfold wpList
  rw [if_pos (hw E S n0 a w hR)]
  refine .inl ?_
  refine h E S n0 (hget st.H) a w hR.hS hR.h0 hn hR.gl (fun _ => rfl) (fun _ _ h => h) (fun x _ u hu => hR.aev x u hu) hR.rh (fun b hb _ => hR.fr b hb) _ _ fun i y w' E' hE hX hv hH hF => ?_
  have hle : ∀ b p, E b = some p → E' b = some p := fun b p hp => by
    rw [hE b (.inr (fun hb => by rw [hR.fr b hb.1] at hp; cases hp))]; exact hp
  have base : RS E' S n0 nt ⟨st.T, U i ++ st.H, st.nx + 8⟩ a w' := by
    refine ⟨fun t u ht => (hR.rt t u ht).mono ⟨hle, hX.dle⟩, hR.nt, hR.df, by rw [← upd_hget]; exact hH, fun b hb => ?_, fun g hg => (hR.gl g hg).imp fun s hs => hle _ _ hs, hR.hS, Nat.le_trans hR.h0 hF.size⟩
    have hb' : st.nx + 8 ≤ b := hb
    rw [hE b (.inr (by omega))]; exact hR.fr b (by omega)
  have hR' : RS E' S n0 nt ⟨(d, v i) :: st.T, U i ++ st.H, st.nx + 8⟩ (a.put o.dst y) w' := by
    rw [hd.1]; exact base.put hd.2 hv
  have hlow : ∀ b, b < 1000 → E' b = E b := fun b hb => hE b (.inr (by omega))
  exact hr i E' S n0 (a.put o.dst y) w' Q (Nat.le_trans hn (Nat.le_add_right _ _)) hR' fun st' E'' a'' w'' h1 h2 h3 h4 h5 => hQ st' E'' a'' w'' h1 h2 (Emb.kp.trans ⟨hlow, hX⟩ h3) h4 (hF.trans h5)
variable {ops rest : List Oper} {post : St → Prop} {op : Op} {d : Tmp} {ty : TypeId} {ps : String} {af : Array Edge} {gd : Option (Nat × Bool)}
theorem EvL.ax {ι : Type} {v : ι → AV} {U : ι → List (Nat × Option ABlk)} (h : OpSemX P (lk st.T) (hget st.H) ⟨some d, op, ty, ps, af, gd⟩ st.nx true ι v U) (hg : Wants ops st.T gd) (hd : Nat.blt d nt = true) (hr : ∀ i, EvL P nt ops rest ⟨(d, v i) :: st.T, U i ++ st.H, st.nx + 8⟩ post) :
    EvL P nt ops (⟨some d, op, ty, ps, af, gd⟩ :: rest) st post :=
  evl_stepX (Wants.ok hg) ⟨rfl, blt_true hd⟩ h hr
end
section
variable {P : Program} {T : Nat → Option AV} {H : Hp} {nm : Nat} {wr : Bool} {d : Option Tmp} {ty : TypeId} {ps : String} {af : Array Edge} {gd : Option (Nat × Bool)} {t t2 e : TypeId} {x y : Operand} {b o n m : Nat} {L : List Int} {d2 : TypeDesc} {zv : Value}
end
end Go.Proofs.YticickigndgpcaaDoor
namespace Go.Proofs.YticickigndgpcaaDoor
open Go.RowKit
section
variable {P : Program} {T : Nat → Option AV} {H : Hp} {nm : Nat} {wr : Bool} {d : Option Tmp} {ty : TypeId} {ps : String} {af : Array Edge} {gd : Option (Nat × Bool)} {t e : TypeId} {x y : Operand} {i : Nat} {l : List (List UInt8)} {dd : TypeDesc}
end
theorem Rel.fsl_inv {E : Emb} {y : Value} {cs : List AV} {n z : Nat} (h : Rel E (.fsl cs n z) y) : (∃ (L : Nat → Option Value) (g : Nat → Value) (a o c s : Nat), E.d a = some (L, s) ∧ cs.length = n * z ∧ (∀ x ∈ cs, x.still = true) ∧ (∀ (i : Nat), i < cs.length → L (o + i) = some (g i)) ∧ (∀ (i : Nat) x, cs[i]? = some x → Rel E x (g i)) ∧ n ≤ c ∧ c ≤ maxLen ∧ o + c * z ≤ s ∧ y = .slice (some ⟨a, o, none⟩) n c) ∨ (∃ ad, cs = [] ∧ n = 0 ∧ y = .slice ad 0 0) := by
  cases h with
  | fsl _ _ _ L g a o c s h h0 h1 h2 h3 h4 h5 h6 => exact .inl ⟨L, g, a, o, c, s, h, h0, h1, h2, h3, h4, h5, h6, rfl⟩
  | fsl0 z ad => exact .inr ⟨ad, rfl, rfl, rfl⟩
  | agg _ _ _ h => cases h
theorem Rel.fptr_inv {E : Emb} {y : Value} {cs : List AV} (h : Rel E (.fptr cs) y) : ∃ (L : Nat → Option Value) (g : Nat → Value) (a o s : Nat), E.d a = some (L, s) ∧ (∀ x ∈ cs, x.still = true) ∧ (∀ (i : Nat), i < cs.length → L (o + i) = some (g i)) ∧ (∀ (i : Nat) x, cs[i]? = some x → Rel E x (g i)) ∧ 0 < cs.length ∧ y = .pointer (some ⟨a, o, none⟩) := by
  cases h with
  | fptr _ L g a o s h h1 h2 h3 h4 => exact ⟨L, g, a, o, s, h, h1, h2, h3, h4, rfl⟩
  | agg _ _ _ h => cases h
theorem nil_fsl (z : Nat) (E : Emb) (y : Value) (h : Rel E .nilsl y) : Rel E (.fsl [] 0 z) y := by rw [h.nilsl_inv]; exact .fsl0 z _
section
variable {P : Program} {T : Nat → Option AV} {H : Hp} {nm : Nat} {wr : Bool} {d : Option Tmp} {ty : TypeId} {ps : String} {af : Array Edge} {gd : Option (Nat × Bool)} {t e : TypeId} {x y : Operand} {i n z : Nat} {cs : List AV} {dd : TypeDesc}
theorem op_len_fsl (ht : P.underlying t = some (.slice e)) (hx : aev T x = some (.fsl cs n z)) :
    OpSem P T H ⟨d, .call { callee := .builtin .len, args := #[x], argTypes := #[t] }, ty, ps, af, gd⟩ nm wr (.i64 (n : Int)) [] :=
  op_len_run hx fun E y w hr => by
    rcases hr.fsl_inv with ⟨L, g, a, o, c, s, _, _, _, _, _, _, _, _, rfl⟩ | ⟨ad, _, rfl, rfl⟩
    · simp [Builtin.len_, run_underlying ht, goInt]
    · simp [Builtin.len_, run_underlying ht, goInt]
theorem op_indexAddr_fsl {j : Int} (ht : P.underlying t = some (.slice e)) (hz : (P.info? e).map (·.size) = some z) (hz0 : 0 < z) (hx : aev T x = some (.fsl cs n z)) (hy : aev T y = some (.i64 j)) (hj : j = (i : Int)) (hlt : i < n) :
    OpSem P T H ⟨d, .indexAddr t x y, ty, ps, af, gd⟩ nm wr (.fptr (cs.drop (i * z))) [] :=
  .quiet fun E a w h => by
    subst hj
    have h2 := (h y mem22 _ hy).i64_inv
    rcases (h x mem21 _ hx).fsl_inv with ⟨L, g, q, o, c, s, h1, h3, h4, h5, h6, h7, h8, h9, h10⟩ | ⟨ad, _, rfl, _⟩
    · have hiz : i * z + z ≤ n * z := by rw [← Nat.succ_mul]; exact Nat.mul_le_mul_right _ hlt
      refine ⟨.pointer (some ⟨q, o + i * z, none⟩), ?_, .fptr _ L (fun k => g (i * z + k)) q (o + i * z) s h1 (fun x hx => h4 x (List.mem_of_mem_drop hx)) (fun k hk => ?_) (fun k v hk => ?_) (by rw [List.length_drop]; omega)⟩
      · have hin : (0 : Int) ≤ (i : Int) ∧ (i : Int) < (n : Int) := by omega
        simp [execOp, h2, h10, Instr.indexAt, asIntOf, run_underlying ht, hin, run_sizeOf_is hz, add_at, hlt]
      · rw [List.length_drop] at hk
        rw [Nat.add_assoc]; exact h5 _ (by omega)
      · rw [List.getElem?_drop] at hk
        exact h6 _ _ hk
    · exact absurd hlt (Nat.not_lt_zero _)
end
theorem StLe.freezeF {nt : Nat} {T : List (Nat × AV)} {H : List (Nat × Option ABlk)} {nx t b o n z e : Nat} {c : AV} (hn : 1000 ≤ nx) (ht : lk T t = some (.sl b o n z)) (hb : hget H b = some ⟨c, e, true⟩) (hl : o + n * z ≤ c.list.length) (hst : ∀ x ∈ c.list, x.still = true) (hmm : c.isMap = false := by first | rfl | assumption | exact AV.map_parts (by assumption)) :
    StLe nt ⟨T, H, nx⟩ ⟨(t, .fsl ((c.list.drop o).take (n * z)) n z) :: T, (b, none) :: H, nx⟩ := by
  refine ⟨hn, fun E S n0 a w hR => ?_⟩
  obtain ⟨q, s, h1, arr, tq, fz, g1, g2, _, _, g5⟩ := hR.rh.blkR hb hmm
  have hd : E.d q = none := by
    cases hq : E.d q with
    | none => rfl
    | some p => exact absurd h1 ((hR.rh.deep q p.1 p.2 hq).2 b _ s hb rfl)
  have hlen : ((c.list.drop o).take (n * z)).length = n * z := by rw [List.length_take, List.length_drop]; omega
  have hle : E.le ⟨E.f, fun p => if p = q then some (fun i => arr[i]?, s) else E.d p⟩ := ⟨fun _ _ h => h, fun p r hp => by
    show (if p = q then some (fun i => arr[i]?, s) else E.d p) = some r
    rw [if_neg (fun h => by rw [h, hd] at hp; cases hp)]; exact hp⟩
  have hup : ∀ m, hget ((b, none) :: H) m = if m = b then none else hget H m := fun m => by
    have := upd_one b none (hget H) m
    rw [upd_hget] at this
    exact this
  have hsub : ∀ m k, hget ((b, none) :: H) m = some k → m ≠ b ∧ hget H m = some k := fun m k h => by
    rw [hup] at h
    split at h
    · cases h
    · rename_i h0; exact ⟨h0, h⟩
  refine ⟨⟨E.f, fun p => if p = q then some (fun i => arr[i]?, s) else E.d p⟩, ⟨fun _ _ => rfl, fun p => ?_⟩, fun t' v ht' => ?_, hR.nt, hR.df, ⟨fun m k hk => ?_, fun m m' k k' l1 s1 s2 q1 q2 q3 q4 q5 => ?_, fun m k l1 s1 q1 q2 q3 => ?_, fun p L' s1 hp => ?_⟩, hR.fr, hR.gl, hR.hS, hR.h0⟩
  · by_cases c : p = q
    · subst c; exact .inr ⟨hd, hR.rh.own b _ p s hb rfl h1⟩
    · exact .inl (if_neg c)
  · simp only [lk] at ht'
    split at ht'
    · rename_i e1
      injection ht' with ht'; subst ht'
      have e2 := Nat.eq_of_beq_eq_true e1
      subst e2
      rcases (hR.rt t _ ht).sl_inv with ⟨l1, s1, cp, q1, q2, q3, q4, q5⟩ | ⟨ad, q1, q5⟩
      · rw [h1] at q1; injection q1 with q1; injection q1 with e1 e2; subst e1; subst e2
        rw [q5]
        refine .fsl _ _ _ (fun i => arr[i]?) (fun i => (arr[o + i]?).getD default) q o cp s (if_pos rfl) hlen (fun x hx => hst x (List.mem_of_mem_drop (List.mem_of_mem_take hx))) (fun k hk => ?_) (fun k v hk => ?_) q2 q3 (by omega)
        · rw [hlen] at hk
          obtain ⟨_, y, p1, _⟩ := g5 (o + k) _ (List.getElem?_eq_getElem (show o + k < c.list.length by omega))
          show arr[o + k]? = _
          rw [p1]; rfl
        · rw [List.getElem?_take] at hk
          split at hk
          · rw [List.getElem?_drop] at hk
            obtain ⟨_, y, p1, p2⟩ := g5 (o + k) v hk
            show Rel _ v ((arr[o + k]?).getD default)
            rw [p1]; exact p2.mono hle
          · cases hk
      · rw [q5]
        subst q1
        rw [show ((c.list.drop o).take (0 * z)) = [] by rw [Nat.zero_mul, List.take_zero]]
        exact .fsl0 z ad
    · exact (hR.rt t' v ht').mono hle
  · obtain ⟨_, hk'⟩ := hsub m k hk
    obtain ⟨l1, s1, q1, q2⟩ := hR.rh.blk m k hk'
    exact ⟨l1, s1, q1, q2.mono hle rfl⟩
  · exact hR.rh.inj m m' k k' l1 s1 s2 (hsub _ _ q1).2 (hsub _ _ q2).2 q3 q4 q5
  · exact hR.rh.own m k l1 s1 (hsub _ _ q1).2 q2 q3
  · by_cases c : p = q
    · subst c
      have hp' : (if p = p then some (fun i => arr[i]?, s) else E.d p) = some (L', s1) := hp
      rw [if_pos rfl] at hp'; injection hp' with hp'; injection hp' with e1 e2; subst e1; subst e2
      refine ⟨⟨arr, tq, fz, g1, g2, fun i x hx => hx⟩, fun m k s2 q1 q2 q3 => ?_⟩
      exact (hsub _ _ q1).1 (hR.rh.inj b m _ k p s s2 hb (hsub _ _ q1).2 rfl h1 q3).symm
    · have hp' : (if p = q then some (fun i => arr[i]?, s) else E.d p) = some (L', s1) := hp
      rw [if_neg c] at hp'
      exact ⟨(hR.rh.deep p L' s1 hp').1, fun m k s2 q1 => (hR.rh.deep p L' s1 hp').2 m k s2 (hsub _ _ q1).2⟩
end Go.Proofs.YticickigndgpcaaDoor
namespace Go.Proofs.YticickigndgpcaaDoor
open Go.RowKit
section
variable {P : Program} {T : Nat → Option AV} {H : Hp} {nm : Nat} {wr : Bool} {d : Option Tmp} {ty : TypeId} {ps : String} {af : Array Edge} {gd : Option (Nat × Bool)} {x : Operand} {c : AV}
end
end Go.Proofs.YticickigndgpcaaDoor
namespace Go.Proofs.YticickigndgpcaaDoor
open Go.RowKit
theorem op_buildRow {P : Program} {T : Nat → Option AV} {H : Hp} {nm : Nat} {wr : Bool} {d : Option Tmp} {ty : TypeId} {ps : String} {af : Array Edge} {gd : Option (Nat × Bool)} {t e : TypeId} {x : Operand} {zv : Value} {z : Nat} {r : AV} {cs : List AV}
    (hu : P.underlying t = some (.slice e)) (hi : Inf P e z zv) (hz0 : 0 < z) (hzm : z ≤ 1000) (hx : aev T x = some r) (hr : r.parts = some cs) (hl : cs.length = z) :
    OpSem P T H ⟨d, .buildSlice t 1 #[(0, x)], ty, ps, af, gd⟩ nm wr (.sl nm 0 1 z) [(nm, some ⟨r, e, true⟩)] := by
  obtain ⟨ie, hie, hz, hsz, _, _⟩ := hi
  exact .allocs fun E S a w h hR => by
    obtain ⟨ds, hd, hdl, hone, hcs⟩ := (h x (by simp [Op.operands]) _ hx).agg_inv hr
    have hds : ds.size = z := by omega
    have hf : Instr.fill (fun i => some (i * ie.size, ie.size)) ((Array.range (1 * ie.size)).map (zv.cells[· % zv.cells.size]!)) ((#[(0, x)] : Array (Nat × Operand)).map fun (i, x) => (i, a.eval x)).toList = some ds := by
      have e2 : ((#[((0 : Nat), x)] : Array (Nat × Operand)).map fun (i, x) => (i, a.eval x)).toList = [(0, .agg ds)] := by simp [hd]
      rw [e2]
      have hzs : ((Array.range (1 * ie.size)).map (zv.cells[· % zv.cells.size]!)).size = ds.size := by simp; omega
      generalize (Array.range (1 * ie.size)).map (zv.cells[· % zv.cells.size]!) = zc at hzs
      have h1 := foldset_all ds zc hzs
      have hc0 : (Value.agg ds).cells = ds := rfl
      simp only [Instr.fill, hc0, Nat.zero_mul, Nat.zero_add]
      rw [if_neg (by simp only [Bool.or_eq_true, decide_eq_true_eq, ne_eq, bne_iff_ne]; omega)]
      exact congrArg some h1
    have hrun := run_buildSlice (P := P) w t e 1 _ ds ie zv hu hie hz (by omega) (by omega) hf
    have hll : r.list.length = z := by simp [AV.list, hr, hl]
    refine ⟨_, ds, (0, 0), w, by simp only [execOp, Sem.run_bind, hrun]; rfl, rfl, rfl, rfl, rfl, (by first | exact DrOk.refl _ | exact (DrOk.refl _).drew | exact (DrOk.refl _).drew.drew), .sl _ _ _ _ _ _ _ (Emb.put_same _ _ _) (Nat.le_refl _) (by unfold maxLen; omega) (by omega), FzOk.zero _ _, by rw [hll]; omega, fun i q hq => ?_⟩
    replace hq : cs[i]? = some q := by simpa [AV.list, hr] using hq
    have hlt := (List.getElem?_eq_some_iff.1 hq).1
    refine ⟨hone q (List.mem_of_getElem? hq), ds[i]'(by omega), by rw [Array.getElem?_eq_getElem], hcs i q _ hq (by rw [Array.getElem?_eq_getElem])⟩
end Go.Proofs.YticickigndgpcaaDoor
namespace Go.Proofs.YticickigndgpcaaDoor
open Go.RowKit
section
variable {P : Program} {T : Nat → Option AV} {H : Hp} {nm : Nat} {wr : Bool} {d : Option Tmp} {ty : TypeId} {ps : String} {af : Array Edge} {gd : Option (Nat × Bool)} {t e : TypeId} {x y : Operand} {l : List (List UInt8)}
end
theorem fn_clo (f : Nat) (E : Emb) (y : Value) (h : Rel E (.val (.func (.func f) #[] #[])) y) : Rel E (.clo f []) y := by
  rw [h.val_inv]; exact .clo f [] #[] rfl (fun i x y hx => by simp at hx)
end Go.Proofs.YticickigndgpcaaDoor
namespace Go.Proofs.YticickigndgpcaaDoor
open Go.RowKit
end Go.Proofs.YticickigndgpcaaDoor
namespace Go.Proofs.YticickigndgpcaaDoor
open Go.RowKit
end Go.Proofs.YticickigndgpcaaDoor
