/-
  Texts of this claim.
-/
import Derived.ChangeKeysEq
import Derived.LaidEql
import Derived.LaidEqlPtr
import Derived.Laws.Pointers
import Derived.Stop.Asserts
import Derived.Lib.Builder
import Derived.Lib.UnsafeStr
import Derived.Lib.Bytealg
import Derived.LoopN
import Derived.OwnWalk
import Derived.Test.YtenocbhlbgcnfaaDoorProg
import Derived.WalkKit
import Derived.Test.YtenocbhlbgcnfaaDoorGTB
namespace Go.Proofs.YtenocbhlbgcnfaaDoor
open Go.RowKit
section
variable {P : Program} {T : Nat → Option AV} {H : Hp} {nm : Nat} {wr : Bool} {v u u1 u2 : AV} {d : Option Tmp} {ty : TypeId} {ps : String} {af : Array Edge} {gd : Option (Nat × Bool)}
/-- The address of a field. -/
theorem op_fieldAddr {s : TypeId} {x : Operand} {b o k m : Nat} {fs : Array Field} {f : Field} (hu : P.underlying s = some (.struct fs)) (hf : fs[k]? = some f) (hz : (P.info? f.type).map (·.size) = some (m + 1)) (hx : aev T x = some (.ptr b o)) :
    OpSem P T H ⟨d, .fieldAddr s x k, ty, ps, af, gd⟩ nm wr (.ptr b (o + f.offset)) [] :=
  .quiet fun E a w h => by
    obtain ⟨l, sz, h1, h3⟩ := (h x mem1 _ hx).ptr_inv
    refine ⟨.pointer (some ⟨l, o + f.offset, none⟩), ?_, .ptr _ _ _ _ h1⟩
    simp [execOp, h3, Instr.fieldAt, Instr.sureAddr, run_underlying hu, hf, fieldPlace, run_sizeOf_is hz, add_at]
end
/-! Rows of numbers, compared. -/
section
variable {P : Program} {w : World}
end
section
variable {P : Program} {T : Nat → Option AV} {H : Hp} {nm : Nat} {wr : Bool} {d : Option Tmp} {ty : TypeId} {ps : String} {af : Array Edge} {gd : Option (Nat × Bool)}
end
end Go.Proofs.YtenocbhlbgcnfaaDoor
namespace Go.Proofs.YtenocbhlbgcnfaaDoor
open Go.RowKit
section
variable {P : Program} {T : Nat → Option AV} {H : Hp} {nm : Nat} {wr : Bool} {d : Option Tmp} {ty t : TypeId} {ps : String} {af : Array Edge} {gd : Option (Nat × Bool)}
theorem run_zero {zc : Array Value} (hz : (P.info? t).map (·.zero) = some (some (.agg zc))) (w : World) : (zeroValue t).run P w = .ok (.agg zc) w := by
  cases hq : P.info? t with
  | none => simp [hq] at hz
  | some i => simp [hq] at hz; simp [zeroValue, typeInfo, hq, hz]
theorem foldset (l : List Value) : ∀ (k : Nat) (cs : Array Value), k + l.length ≤ cs.size → ((l.zipIdx k).foldl (fun cs x => cs.setIfInBounds x.2 x.1) cs).size = cs.size ∧ ∀ i, ((l.zipIdx k).foldl (fun cs x => cs.setIfInBounds x.2 x.1) cs)[i]? = if k ≤ i ∧ i < k + l.length then l[i - k]? else cs[i]? := by
  induction l with
  | nil => intro k cs _; exact ⟨rfl, fun i => by rw [if_neg (by simp)]; rfl⟩
  | cons c l ih =>
    intro k cs h
    simp only [List.length_cons] at h
    obtain ⟨h1, h2⟩ := ih (k + 1) (cs.setIfInBounds k c) (by simp; omega)
    simp only [List.zipIdx_cons, List.foldl_cons]
    refine ⟨by rw [h1]; simp, fun i => ?_⟩
    rw [h2 i]
    simp only [List.length_cons]
    by_cases e : k = i
    · subst e
      rw [if_neg (by omega), if_pos (by omega), Nat.sub_self, Array.getElem?_setIfInBounds]
      rw [if_pos rfl, if_pos (by omega)]; rfl
    · by_cases e2 : k + 1 ≤ i ∧ i < k + 1 + l.length
      · rw [if_pos e2, if_pos (by omega), show i - k = (i - (k + 1)) + 1 by omega]; rfl
      · rw [if_neg e2, if_neg (by omega), Array.getElem?_setIfInBounds, if_neg e]
end
end Go.Proofs.YtenocbhlbgcnfaaDoor
namespace Go.Proofs.YtenocbhlbgcnfaaDoor
open Go.RowKit
section
variable {P : Program} {T : Nat → Option AV} {H : Hp} {nm : Nat} {wr : Bool} {d : Option Tmp} {ty t : TypeId} {ps : String} {af : Array Edge} {gd : Option (Nat × Bool)}
end
end Go.Proofs.YtenocbhlbgcnfaaDoor
namespace Go.Proofs.YtenocbhlbgcnfaaDoor
open Go.RowKit
/-- The cells of a value as they lie in a row. -/
def AV.cells (a : AV) : List AV := match a.parts with
  | some cs => cs
  | none => [a]
def setAt (l : List AV) (o : Nat) (cs : List AV) : List AV := l.take o ++ (cs ++ l.drop (o + cs.length))
def fillA (pl : List (Nat × Nat)) : List AV → List (Nat × AV) → Option (List AV)
  | l, [] => some l
  | l, (i, v) :: r => match pl[i]? with
    | none => none
    | some (o, s) => match Nat.beq v.cells.length s && Nat.ble (o + s) l.length && v.cells.all AV.one with
      | true => fillA pl (setAt l o v.cells) r
      | false => none
/-- Cells that read as these values. -/
def RowRel (E : Emb) (l : List AV) (arr : Array Value) : Prop := l.length = arr.size ∧ (∀ x ∈ l, x.one = true) ∧ ∀ (i : Nat) x y, l[i]? = some x → arr[i]? = some y → Rel E x y
theorem rowrel_of {E : Emb} {v : AV} {y : Value} (h : Rel E v y) (h1 : v.cells.all AV.one = true) : RowRel E v.cells y.cells := by
  unfold AV.cells at *
  cases hp : v.parts with
  | some cs =>
    obtain ⟨ds, e, g1, g2, g3⟩ := h.agg_inv hp
    subst e
    exact ⟨g1, g2, g3⟩
  | none =>
    simp only [hp, List.all_cons, List.all_nil, Bool.and_true] at h1
    have e : y.cells = #[y] := by
      have := h.one h1
      cases y <;> first | rfl | (simp [Value.oneCell'] at this)
    simp only [e]
    refine ⟨rfl, fun x hx => by simp at hx; rw [hx]; exact h1, fun i x y' hx hy => ?_⟩
    match i, hx, hy with
    | 0, hx, hy => simp at hx hy; subst hx; subst hy; exact h
    | i + 1, hx, _ => simp at hx
theorem foldset_at (ys zc : Array Value) (o : Nat) (h : o + ys.size ≤ zc.size) : (ys.zipIdx.foldl (fun cs x => cs.setIfInBounds (o + x.2) x.1) zc).size = zc.size ∧ ∀ i, (ys.zipIdx.foldl (fun cs x => cs.setIfInBounds (o + x.2) x.1) zc)[i]? = if o ≤ i ∧ i < o + ys.size then ys[i - o]? else zc[i]? := by
  have e : ∀ (l : List Value) (k n : Nat) (cs : Array Value), (l.zipIdx k).foldl (fun cs x => cs.setIfInBounds (n + x.2) x.1) cs = (l.zipIdx (n + k)).foldl (fun cs x => cs.setIfInBounds x.2 x.1) cs := by
    intro l
    induction l with
    | nil => intro k n cs; rfl
    | cons a l ih => intro k n cs; simp only [List.zipIdx_cons, List.foldl_cons]; rw [ih (k + 1) n]; rfl
  rw [← Array.foldl_toList, Array.toList_zipIdx, e ys.toList 0 o, Nat.add_zero]
  obtain ⟨h1, h2⟩ := foldset ys.toList o zc (by simpa using h)
  exact ⟨h1, fun i => by rw [h2 i]; simp⟩
theorem rowrel_set {E : Emb} {l : List AV} {arr : Array Value} {cs : List AV} {ys : Array Value} {o : Nat} (h : RowRel E l arr) (h2 : RowRel E cs ys) (ho : o + cs.length ≤ l.length) : RowRel E (setAt l o cs) (ys.zipIdx.foldl (fun cs x => cs.setIfInBounds (o + x.2) x.1) arr) := by
  obtain ⟨a1, a2, a3⟩ := h
  obtain ⟨b1, b2, b3⟩ := h2
  obtain ⟨f1, f2⟩ := foldset_at ys arr o (by omega)
  refine ⟨?_, fun x hx => ?_, fun i x y hx hy => ?_⟩
  · rw [f1]; simp only [setAt, List.length_append, List.length_take, List.length_drop]; omega
  · simp only [setAt, List.mem_append] at hx
    rcases hx with hx | hx | hx
    · exact a2 x (List.mem_of_mem_take hx)
    · exact b2 x hx
    · exact a2 x (List.mem_of_mem_drop hx)
  · rw [f2 i] at hy
    simp only [setAt] at hx
    have hto : (l.take o).length = o := by rw [List.length_take]; omega
    by_cases c1 : i < o
    · rw [if_neg (by omega)] at hy
      rw [List.getElem?_append_left (by omega), List.getElem?_take, if_pos c1] at hx
      exact a3 i x y hx hy
    · rw [List.getElem?_append_right (by omega), hto] at hx
      by_cases c2 : i < o + cs.length
      · rw [if_pos (by omega)] at hy
        rw [List.getElem?_append_left (by omega)] at hx
        exact b3 _ x y hx hy
      · rw [if_neg (by omega)] at hy
        rw [List.getElem?_append_right (by omega), List.getElem?_drop, show o + cs.length + (i - o - cs.length) = i by omega] at hx
        exact a3 i x y hx hy
theorem fillA_spec {E : Emb} {pl : Array (Nat × Nat)} : ∀ (vs : List (Nat × AV)) (ys : List (Nat × Value)) (l : List AV) (arr : Array Value) (r : List AV), RowRel E l arr → vs.length = ys.length → (∀ (i : Nat) p q, vs[i]? = some p → ys[i]? = some q → p.1 = q.1 ∧ Rel E p.2 q.2) → fillA pl.toList l vs = some r →
    ∃ arr', Instr.fill (fun i => pl[i]?) arr ys = some arr' ∧ RowRel E r arr'
  | [], [], l, arr, r, h, _, _, hf => by injection hf with hf; subst hf; exact ⟨arr, rfl, h⟩
  | (i, v) :: vs, (j, y) :: ys, l, arr, r, h, hl, hr, hf => by
    obtain ⟨e, hv⟩ := hr 0 _ _ rfl rfl
    simp only at e hv; subst e
    unfold fillA at hf
    rw [Array.getElem?_toList] at hf
    cases hp : pl[i]? with
    | none => rw [hp] at hf; cases hf
    | some p =>
      obtain ⟨o, s⟩ := p
      rw [hp] at hf
      simp only at hf
      split at hf
      · rename_i hc
        simp only [Bool.and_eq_true] at hc
        obtain ⟨⟨c1, c2⟩, c3⟩ := hc
        have c1 := Nat.eq_of_beq_eq_true c1
        have c2 := Nat.le_of_ble_eq_true c2
        have hrow := rowrel_of hv c3
        have hs : y.cells.size = s := by rw [← hrow.1]; exact c1
        have hsz : arr.size = l.length := h.1.symm
        obtain ⟨arr', g1, g2⟩ := fillA_spec vs ys (setAt l o v.cells) _ r (rowrel_set (o := o) h hrow (by omega)) (by simpa using hl) (fun k p q hp hq => hr (k + 1) p q hp hq) hf
        refine ⟨arr', ?_, g2⟩
        show (match (fun i => pl[i]?) i with
          | none => none
          | some (off, size) => if y.cells.size ≠ size || off + y.cells.size > arr.size then none else Instr.fill (fun i => pl[i]?) (y.cells.zipIdx.foldl (fun cs x => cs.setIfInBounds (off + x.2) x.1) arr) ys) = some arr'
        simp only [hp]
        rw [if_neg (by simp; omega)]
        exact g1
      · cases hf
  | [], _ :: _, _, _, _, _, hl, _, _ => by simp at hl
  | _ :: _, [], _, _, _, _, hl, _, _ => by simp at hl
def opsA (T : Nat → Option AV) : List (Nat × Operand) → Option (List (Nat × AV))
  | [] => some []
  | (i, x) :: r => match aev T x, opsA T r with
    | some v, some vs => some ((i, v) :: vs)
    | _, _ => none
theorem opsA_spec {T : Nat → Option AV} {E : Emb} {f : Operand → Value} : ∀ (ps : List (Nat × Operand)) (vs : List (Nat × AV)), opsA T ps = some vs → (∀ p ∈ ps, ∀ u, aev T p.2 = some u → Rel E u (f p.2)) → vs.length = ps.length ∧ ∀ (i : Nat) p q, vs[i]? = some p → (ps.map fun (i, x) => (i, f x))[i]? = some q → p.1 = q.1 ∧ Rel E p.2 q.2
  | [], vs, h, _ => by injection h with h; subst h; exact ⟨rfl, fun i p q hp => by cases hp⟩
  | (i, x) :: r, vs, h, hr => by
    unfold opsA at h
    split at h
    · rename_i v vs' h1 h2
      injection h with h; subst h
      obtain ⟨g1, g2⟩ := opsA_spec r vs' h2 (fun p hp => hr p (List.mem_cons_of_mem _ hp))
      refine ⟨by simp [g1], fun k p q hp hq => ?_⟩
      cases k with
      | zero => simp at hp hq; subst hp; subst hq; exact ⟨rfl, hr _ (List.mem_cons_self ..) _ h1⟩
      | succ k => simp at hp hq; exact g2 k p q hp (by simpa using hq)
    · cases h
def placesA (P : Program) : List Field → Option (List (Nat × Nat))
  | [] => some []
  | f :: r => match (P.info? f.type).map (·.size), placesA P r with
    | some s, some pl => some ((f.offset, s) :: pl)
    | _, _ => none
theorem placesA_run {P : Program} (w : World) : ∀ (fs : List Field) (pl : List (Nat × Nat)), placesA P fs = some pl → (fs.mapM (fun f => do pure (f.offset, ← sizeOf f.type) : Field → Sem (Nat × Nat))).run P w = .ok pl w
  | [], pl, h => by injection h with h; subst h; simp
  | f :: r, pl, h => by
    unfold placesA at h
    split at h
    · rename_i s pl' h1 h2
      injection h with h; subst h
      have ih := placesA_run w r pl' h2
      rw [List.mapM_cons]
      simp only [Sem.run_bind, run_sizeOf_is h1, Result.andThen_ok, Sem.run_pure, ih]
    · cases h
section
variable {P : Program} {T : Nat → Option AV} {H : Hp} {nm : Nat} {wr : Bool} {d : Option Tmp} {ty t : TypeId} {ps : String} {af : Array Edge} {gd : Option (Nat × Bool)}
/-- A struct built of some of its fields. -/
theorem op_buildS {zc : Array Value} {z0 r : AV} {fs : Array Field} {pl : List (Nat × Nat)} {ops : Array (Nat × Operand)} {vs : List (Nat × AV)} {cs : List AV} (hu : P.underlying t = some (.struct fs)) (hpl : placesA P fs.toList = some pl) (hz : (P.info? t).map (·.zero) = some (some (.agg zc))) (hz0 : Rel Emb.nil z0 (.agg zc)) (hp0 : z0.parts.isSome = true)
    (hv : opsA T ops.toList = some vs) (hf : fillA pl z0.list vs = some cs) (hr : r.parts = some cs) : OpSem P T H ⟨d, .build t ops, ty, ps, af, gd⟩ nm wr r [] :=
  .quiet fun E a w h => by
    obtain ⟨g1, g2⟩ := opsA_spec (E := E) (f := a.eval) ops.toList vs hv (fun p hp u hu => h p.2 (by
      simp only [Op.operands]
      first
      | exact List.mem_toArray.2 (List.mem_map.2 ⟨p, hp, rfl⟩)
      | (simp; exact ⟨p.1, by simpa using hp⟩)) u hu)
    have hrow : RowRel E z0.list zc := by
      have hz1 : Rel E z0 (.agg zc) := hz0.mono (Emb.nil_le _)
      unfold AV.list
      cases hq : z0.parts with
      | none => rw [hq] at hp0; cases hp0
      | some l =>
        obtain ⟨ds, e, g1, g2, g3⟩ := hz1.agg_inv hq
        injection e with e; subst e
        exact ⟨g1, g2, g3⟩
    obtain ⟨arr', k1, k2⟩ := fillA_spec (pl := pl.toArray) vs (ops.toList.map fun (i, x) => (i, a.eval x)) z0.list zc cs hrow (by rw [g1]; simp) g2 hf
    refine ⟨.agg arr', ?_, .agg _ cs _ hr k2.1 k2.2.1 k2.2.2⟩
    have em : (fs.mapM (fun f => do pure (f.offset, ← sizeOf f.type) : Field → Sem (Nat × Nat))).run P w = .ok pl.toArray w := by
      have := placesA_run (P := P) w fs.toList pl hpl
      rw [Array.mapM_eq_mapM_toList, map_eq_pure_bind, Sem.run_bind, this]
      rfl
    simp only [execOp, Sem.run_bind, Instr.build, run_zero hz, Result.andThen_ok, run_underlying hu, Value.cells]
    rw [em]
    simp only [Result.andThen_ok]
    have e2 : (ops.map fun (i, x) => (i, a.eval x)).toList = ops.toList.map fun (i, x) => (i, a.eval x) := by simp
    rw [e2, k1]
    simp
end
/-- A slot may be written in any way that stands for no less. -/
theorem Ev.asR {P : Program} {nt : Nat} {c : Code} {T1 T2 : List (Nat × AV)} {H : List (Nat × Option ABlk)} {nx : Nat} {post : Exit → St → Prop} {s : Nat} {v : AV} (v' : AV) (hv : ∀ E y, Rel E v y → Rel E v' y) (h : Ev P nt c ⟨T1 ++ (s, v') :: T2, H, nx⟩ post) : Ev P nt c ⟨T1 ++ (s, v) :: T2, H, nx⟩ post :=
  fun E S n0 a w hn hR => h E S n0 a w hn ⟨fun t u ht => by
    have hl := lk_append T1 ((s, v') :: T2) t
    rw [hl] at ht
    cases hq : lk T1 t with
    | some u' =>
      rw [hq] at ht; injection ht with ht; subst ht
      exact hR.rt t _ (by rw [lk_append, hq]; rfl)
    | none =>
      rw [hq] at ht
      simp only [Option.none_or, lk] at ht
      split at ht
      · rename_i e
        injection ht with ht; subst ht
        exact hv _ _ (hR.rt t v (by rw [lk_append, hq]; simp only [Option.none_or, lk, e]))
      · rename_i e
        exact hR.rt t u (by rw [lk_append, hq]; simp only [Option.none_or, lk, e]; exact ht), hR.nt, hR.df, hR.rh, hR.fr, hR.gl, hR.hS, hR.h0⟩
end Go.Proofs.YtenocbhlbgcnfaaDoor
namespace Go.Proofs.YtenocbhlbgcnfaaDoor
open Go.RowKit
section
variable {P : Program} {T : Nat → Option AV} {H : Hp} {nm : Nat} {wr : Bool} {v u u1 u2 : AV} {d : Option Tmp} {ty : TypeId} {ps : String} {af : Array Edge} {gd : Option (Nat × Bool)} {t t2 te : TypeId} {x y : Operand} {b o : Nat}
theorem run_eqP_nil (hp : P.underlying t = some (.pointer te)) (p : Option Addr) (w : World) : (Op.equalIn 10000 t (.pointer p) (.pointer none)).run P w = .ok p.isNone w := by
  have h : ∀ d : Nat, (Op.equalIn (d + 1) t (.pointer p) (.pointer none)).run P w = .ok p.isNone w := fun d => by
    cases p <;> simp [Op.equalIn, run_underlying hp]
  exact h 9999
/-- A pointer beside nil. -/
theorem op_eqPtrNil {op : BinOp} {t' : TypeId} (hp : P.underlying t = some (.pointer te)) (hx : aev T x = some (.ptr b o)) (hy : aev T y = some (.val (.pointer none))) (hv : (match op with | .eql => some (AV.bool false) | .neq => some (.bool true) | _ => none) = some v) :
    OpSem P T H ⟨d, .binOp op t x y t', ty, ps, af, gd⟩ nm wr v [] :=
  op_bin hx hy fun E y1 y2 w h1 h2 => by
    obtain ⟨l, s, _, h3⟩ := h1.ptr_inv
    rw [h3, h2.val_inv]
    have e := run_eqP_nil hp (some ⟨l, o, none⟩) w
    cases op <;> simp only [Option.some.injEq, reduceCtorEq] at hv <;> subst hv
    · exact ⟨.bool false, by simp [eqGuard, binOp, Op.equal, Op.maxDepth, e], .bool _⟩
    · exact ⟨.bool true, by simp [eqGuard, binOp, Op.equal, Op.maxDepth, e], .bool _⟩
theorem op_eqNilPtr {op : BinOp} {t' : TypeId} (hp : P.underlying t = some (.pointer te)) (hx : aev T x = some (.val (.pointer none))) (hy : aev T y = some (.val (.pointer none))) (hv : (match op with | .eql => some (AV.bool true) | .neq => some (.bool false) | _ => none) = some v) :
    OpSem P T H ⟨d, .binOp op t x y t', ty, ps, af, gd⟩ nm wr v [] :=
  op_bin hx hy fun E y1 y2 w h1 h2 => by
    rw [h1.val_inv, h2.val_inv]
    have e := run_eqP_nil hp none w
    cases op <;> simp only [Option.some.injEq, reduceCtorEq] at hv <;> subst hv
    · exact ⟨.bool true, by simp [eqGuard, binOp, Op.equal, Op.maxDepth, e], .bool _⟩
    · exact ⟨.bool false, by simp [eqGuard, binOp, Op.equal, Op.maxDepth, e], .bool _⟩
/-- A pointer beside itself. -/
theorem op_eqPtrSame {op : BinOp} {t' : TypeId} (hp : P.underlying t = some (.pointer te)) (hte : (P.info? te).isSome = true) (hx : aev T x = some (.ptr b o)) (hy : aev T y = some (.ptr b o)) (hv : (match op with | .eql => some (AV.bool true) | .neq => some (.bool false) | _ => none) = some v) :
    OpSem P T H ⟨d, .binOp op t x y t', ty, ps, af, gd⟩ nm wr v [] :=
  op_bin hx hy fun E y1 y2 w h1 h2 => by
    obtain ⟨l, s, g1, h3⟩ := h1.ptr_inv
    obtain ⟨l', s', g2, h4⟩ := h2.ptr_inv
    rw [g1] at g2; injection g2 with g2; injection g2 with e1 e2; subst e1
    obtain ⟨j, hj⟩ := Option.isSome_iff_exists.1 hte
    have e0 : ∀ d : Nat, (Op.equalIn (d + 1) t (.pointer (some ⟨l, o, none⟩)) (.pointer (some ⟨l, o, none⟩))).run P w = .ok true w := fun d => by
      simp [Op.equalIn, run_underlying hp, sizeOf, typeInfo, hj, run_sameAddr_same]
    have e := e0 9999
    rw [h3, h4]
    cases op <;> simp only [Option.some.injEq, reduceCtorEq] at hv <;> subst hv
    · exact ⟨.bool true, by simp [eqGuard, binOp, Op.equal, Op.maxDepth, e], .bool _⟩
    · exact ⟨.bool false, by simp [eqGuard, binOp, Op.equal, Op.maxDepth, e], .bool _⟩
/-- Where the sentinel with a number has its cell. -/
def offE (eo : Nat → Nat × Nat) : Nat → Nat × Nat
  | 0 => (0, 0)
  | n + 1 => eo n
theorem run_eqI_nil {ms : Array (String × TypeId)} (hi : P.underlying t = some (.interface ms)) (w : World) (v : Value) (hv : v = .nilIface ∨ ∃ a b, v = .iface a b) : (Op.equalIn 10000 t v .nilIface).run P w = .ok (match v with | .nilIface => true | _ => false) w := by
  have h : ∀ d : Nat, (Op.equalIn (d + 1) t v .nilIface).run P w = .ok (match v with | .nilIface => true | _ => false) w := fun d => by
    rcases hv with rfl | ⟨a, b, rfl⟩ <;> simp [Op.equalIn, run_underlying hi]
  exact h 9999
/-- An error beside the literal nil. -/
theorem op_eqErrNil {op : BinOp} {t' tp : TypeId} {e : Nat} {o : Nat × Nat} {ms : Array (String × TypeId)} (hi : P.underlying t = some (.interface ms)) (hx : aev T x = some (.err tp e o)) (hv : (match op with | .eql => some (AV.bool (e == 0)) | .neq => some (.bool (e != 0)) | _ => none) = some v) :
    OpSem P T H ⟨d, .binOp op t x (.const .nilIface) t', ty, ps, af, gd⟩ nm wr v [] :=
  op_bin hx (show aev T (.const .nilIface) = some (.val .nilIface) from rfl) fun E y1 y2 w h1 h2 => by
    rw [h2.val_inv]
    have hq : (y1 = .nilIface ∧ e = 0) ∨ ((∃ a b, y1 = .iface a b) ∧ e ≠ 0) := by
      rcases h1.err_inv with ⟨h3, h4⟩ | ⟨n, s, h3, _, _, h4⟩
      · exact .inl ⟨h4, h3⟩
      · exact .inr ⟨⟨_, _, h4⟩, by omega⟩
    rcases hq with ⟨rfl, rfl⟩ | ⟨⟨a, b, rfl⟩, he⟩
    · have e := run_eqI_nil hi w .nilIface (.inl rfl)
      cases op <;> simp only [Option.some.injEq, reduceCtorEq] at hv <;> subst hv
      · exact ⟨.bool true, by simp [eqGuard, binOp, Op.equal, Op.maxDepth, e], .bool _⟩
      · exact ⟨.bool false, by simp [eqGuard, binOp, Op.equal, Op.maxDepth, e], .bool _⟩
    · have e2 := run_eqI_nil hi w (.iface a b) (.inr ⟨a, b, rfl⟩)
      have h0 : (e == 0) = false := by simpa using he
      cases op <;> simp only [Option.some.injEq, reduceCtorEq] at hv <;> subst hv
      · rw [h0]; exact ⟨.bool false, by simp [eqGuard, binOp, Op.equal, Op.maxDepth, e2], .bool _⟩
      · rw [show (e != 0) = true by simpa using he]; exact ⟨.bool true, by simp [eqGuard, binOp, Op.equal, Op.maxDepth, e2], .bool _⟩
theorem op_eqNilNil {op : BinOp} {t' : TypeId} {ms : Array (String × TypeId)} (hi : P.underlying t = some (.interface ms)) (hx : aev T x = some (.val .nilIface)) (hv : (match op with | .eql => some (AV.bool true) | .neq => some (.bool false) | _ => none) = some v) :
    OpSem P T H ⟨d, .binOp op t x (.const .nilIface) t', ty, ps, af, gd⟩ nm wr v [] :=
  op_bin hx (show aev T (.const .nilIface) = some (.val .nilIface) from rfl) fun E y1 y2 w h1 h2 => by
    rw [h2.val_inv, h1.val_inv]
    have e2 := run_eqI_nil hi w .nilIface (.inl rfl)
    cases op <;> simp only [Option.some.injEq, reduceCtorEq] at hv <;> subst hv
    · exact ⟨.bool true, by simp [eqGuard, binOp, Op.equal, Op.maxDepth, e2], .bool _⟩
    · exact ⟨.bool false, by simp [eqGuard, binOp, Op.equal, Op.maxDepth, e2], .bool _⟩
/-- A struct out of a row that is held by value. -/
theorem op_index_rowS {cs : List AV} {j : Int} {i n z : Nat} {dd : TypeDesc} {e : TypeId} (ht : P.underlying t = some (.array n e)) (he : P.underlying e = some dd) (hna : (match dd with | .struct _ | .array _ _ => true | _ => false) = true) (hz : (P.info? e).map (·.size) = some z) (hx : aev T x = some u) (hc : u.parts = some cs)
    (hy : aev T y = some (.i64 j)) (hj : j = (i : Int)) (hlt : i * z + z ≤ cs.length) (hn : i < n) :
    OpSem P T H ⟨d, .index t x y, ty, ps, af, gd⟩ nm wr (.agg ((cs.drop (i * z)).take z)) [] :=
  .quiet fun E a w h => by
    subst hj
    obtain ⟨ds, q1, q2, q3, q4⟩ := (h x mem21 _ hx).agg_inv hc
    have h2 := (h y mem22 _ hy).i64_inv
    have hp : (part e ds (i * z)).run P w = .ok (.agg (ds.extract (i * z) (i * z + z))) w := by simp [part, run_isAgg_yes he hna, run_sizeOf_is hz]
    refine ⟨.agg (ds.extract (i * z) (i * z + z)), ?_, .agg _ _ _ rfl (by simp; omega) (fun q hq => q3 q (List.mem_of_mem_drop (List.mem_of_mem_take hq))) (fun k q v hq hv => ?_)⟩
    · have hin : (0 : Int) ≤ (i : Int) ∧ (i : Int) < (n : Int) := by omega
      simp [execOp, q1, h2, Instr.index, asIntOf, run_underlying ht, hin, run_sizeOf_is hz, hp, hn]
    · rw [List.getElem?_take] at hq
      split at hq
      · rw [List.getElem?_drop] at hq
        rw [Array.getElem?_extract] at hv
        split at hv
        · exact q4 _ q v hq hv
        · cases hv
      · cases hq
/-- The value written last, said in any weaker way. -/
theorem EvL.asR {P : Program} {nt : Nat} {ops rest : List Oper} {T : List (Nat × AV)} {H : List (Nat × Option ABlk)} {nx d : Nat} {q : St → Prop} {v : AV} (v' : AV) (hv : ∀ E y, Rel E v y → Rel E v' y) (h : EvL P nt ops rest ⟨(d, v') :: T, H, nx⟩ q) : EvL P nt ops rest ⟨(d, v) :: T, H, nx⟩ q := by
  intro E S n0 a w Q hn hR hK
  refine h E S n0 a w Q hn ⟨fun t u hu => ?_, hR.nt, hR.df, hR.rh, hR.fr, hR.gl, hR.hS, hR.h0⟩ hK
  simp only [lk] at hu
  split at hu
  · rename_i e; injection hu with hu; subst hu
    exact hv _ _ (hR.rt t v (by simp only [lk, e]))
  · rename_i e; exact hR.rt t u (by simp only [lk, e]; exact hu)
/-- unsafe.Pointer(p), where a cell stands at p. -/
theorem op_toUnsafe {k : ABlk} (hs : P.underlying t = some (.pointer te)) (hd : P.underlying t2 = some .unsafePointer) (hsz : (P.info? te).map (fun i => decide (i.size = 0)) = some false) (hx : aev T x = some (.ptr b o)) (hk : H b = some k) (hlt : Nat.blt o k.c.len = true) :
    OpSem P T H ⟨d, .convert t t2 x, ty, ps, af, gd⟩ nm wr (.ptr b o) [] :=
  .reads fun E S a w h hR => by
    obtain ⟨l, s, h1, h2⟩ := (h x mem1 _ hx).ptr_inv
    obtain ⟨l', s', h3, h4⟩ := hR.blkR hk (map_lt (blt_true hlt))
    rw [h1] at h3; injection h3 with h3; injection h3 with e1 e2; subst e1
    have hl : o < k.c.list.length := by rw [len_list]; exact blt_true hlt
    obtain ⟨_, yv, hc, _⟩ := h4.cell (List.getElem?_eq_getElem hl)
    have hr := run_convert_to_unsafe hs hd hsz hc
    refine ⟨.pointer (some ⟨l, o, none⟩), ?_, .ptr _ _ _ _ h1⟩
    simp [execOp, h2, hr]
theorem rowAt_mono (fits : TypeId → Bool) {d e c c' off n : Nat} (h : c ≤ c') (hr : rowAt P fits d e c off n = true) : rowAt P fits d e c' off n = true := by
  cases d with
  | zero => exact hr
  | succ d =>
    unfold rowAt at hr ⊢
    dsimp only at hr ⊢
    split at hr
    · cases hr
    · rename_i hs
      rw [if_neg hs]
      simp only [Bool.or_eq_true, Bool.and_eq_true, decide_eq_true_eq] at hr ⊢
      rcases hr with ⟨⟨h1, h2⟩, h3⟩ | ⟨h1, h2⟩
      · exact .inl ⟨⟨h1, by omega⟩, h3⟩
      · exact .inr ⟨by omega, h2⟩
theorem liesAt_mono {d e c c' off u n : Nat} (h : c ≤ c') (hr : liesAt P d e c off u n = true) : liesAt P d e c' off u n = true := by
  induction d generalizing u n with
  | zero => exact hr
  | succ d ih =>
    unfold liesAt at hr ⊢
    simp only [Bool.or_eq_true] at hr ⊢
    rcases hr with hr | hr
    · exact .inl (rowAt_mono _ h hr)
    · right
      split at hr
      · rename_i m u' hq
        exact ih hr
      · cases hr
/-- A pointer out of unsafe.Pointer, where a variable of its type lies. -/
theorem op_fromUnsafe {k : ABlk} (hs : P.underlying t = some .unsafePointer) (hd : P.underlying t2 = some (.pointer te)) (hte : (P.info? te).isSome = true) (hx : aev T x = some (.ptr b o)) (hk : H b = some k) (hne : k.elem ≠ errT) (hlt0 : Nat.blt k.elem frz = true) (hsz : Nat.ble (P.cellsOf k.elem) k.c.len = true) (hpos : Nat.blt 0 (P.cellsOf k.elem) = true)
    (hl : liesAt P P.depth k.elem 1 o te 1 = true) : OpSem P T H ⟨d, .convert t t2 x, ty, ps, af, gd⟩ nm wr (.ptr b o) [] :=
  .reads fun E S a w h hR => by
    obtain ⟨l, s, h1, h2⟩ := (h x mem1 _ hx).ptr_inv
    obtain ⟨l', s', h3, arr, tq, fz, g1, g2, g3, g4, g5⟩ := hR.blkR hk (map_lt (Nat.lt_of_lt_of_le (blt_true hpos) (Nat.le_of_ble_eq_true hsz)))
    rw [h1] at h3; injection h3 with h3; injection h3 with e1 e2; subst e1
    obtain ⟨j, hj⟩ := Option.isSome_iff_exists.1 hte
    have htq : tq = k.elem := g3.2.is hne (blt_true hlt0)
    have hsh : w.shape? l = some (k.elem, arr.size) := by simp [World.shape?, g1, htq]
    have hcount : 1 ≤ arr.size / P.cellsOf k.elem := by
      rw [len_list] at g4
      exact (Nat.le_div_iff_mul_le (blt_true hpos)).2 (by have := Nat.le_of_ble_eq_true hsz; omega)
    have hr := Lib.run_from_unsafe (P := P) (w := w) (src := t) (dst := t2) ⟨l, o, none⟩ hs hd hj hsh (liesAt_mono hcount hl)
    refine ⟨.pointer (some ⟨l, o, none⟩), ?_, .ptr _ _ _ _ h1⟩
    simp [execOp, h2, hr]
/-- internal/abi.NoEscape: the pointer as it is. -/
theorem op_noEscape {f : FuncId} {fn : Func} {ts : Array TypeId} (hf : P.funcs[f]? = some fn) (hname : (fn.name == "runtime.NumGoroutine") = false) (hb : fn.body.isNone = true) (hn : (Extern.findNext fn).isNone = true)
    (he : (Extern.find fn) = some Extern.AbiNoEscape.same) (hx : aev T x = some u) : OpSem P T H ⟨d, .call { callee := .value (.func f), args := #[x], argTypes := ts }, ty, ps, af, gd⟩ nm wr u [] :=
  .quiet fun E ac w h => by
    have hr := h x (by simp [Op.operands, Call.operands]) _ hx
    have hrun : (callFunc f #[ac.eval x]).run P w = .ok (.value (ac.eval x)) w := run_callFunc_ext hf hname hb hn he rfl
    exact ⟨ac.eval x, run_exec_func (by simpa using hrun), hr⟩
/-- unsafe.SliceData. -/
theorem op_sliceData {ts : Array TypeId} {n z : Nat} (hx : aev T x = some (.sl b o n z)) (hn : 0 < n) : OpSem P T H ⟨d, .call { callee := .builtin .unsafeSliceData, args := #[x], argTypes := ts }, ty, ps, af, gd⟩ nm wr (.ptr b o) [] :=
  .quiet fun E a w h => by
    rcases (h x (by simp [Op.operands, Call.operands]) _ hx).sl_inv with ⟨l, s, c, q1, q2, q3, q4, q5⟩ | ⟨ad, q1, _⟩
    · have hr := Lib.run_unsafeSliceData_row (P := P) (w := w) ts ty ⟨l, o, none⟩ n c (by omega)
      exact ⟨.pointer (some ⟨l, o, none⟩), by simp [execOp, resolve, invoke, builtin, q5, hr], .ptr _ _ _ _ q1⟩
    · omega
theorem frz_ne (e : Nat) : frz + e ≠ errT := fun h => by
  have h' : (2000000 : Nat) + e = (1000000 : Nat) := h
  omega
/-- unsafe.String of a buffer's bytes: from here on they are nobody's to write. -/
theorem op_unsafeString {pt it e : TypeId} {k : ABlk} {l : List UInt8} {j : Int} (hp : P.underlying pt = some (.pointer e)) (hcl : P.cellsOf e = 1) (hx : aev T x = some (.ptr b 0)) (hy : aev T y = some (.i64 j)) (hj : j = (l.length : Int)) (hk : H b = some k) (hown : k.own = true) (hke : k.elem = e) (hne0 : e ≠ errT) (hlt0 : e < frz) (hc : k.c = .aggB l) (h0 : 0 < l.length) (hlim : l.length ≤ 9223372036854775807) :
    OpSem P T H ⟨d, .call { callee := .builtin .unsafeString, args := #[x, y], argTypes := #[pt, it] }, ty, ps, af, gd⟩ nm true (.str l) [(b, some ⟨.aggB l, frz + e, false⟩)] := by
  intro E S n0 H2 a w hS hn0' _ _ hwr hle hop hR hf K Q hK
  have hne : k.elem ≠ errT := hke ▸ hne0
  have e0 := hwr rfl; subst e0
  obtain ⟨lc, s', q1, hrx⟩ := (hop x (by simp [Op.operands, Call.operands]) _ hx).ptr_inv
  have hry := (hop y (by simp [Op.operands, Call.operands]) _ hy).i64_inv
  obtain ⟨l', s, h3, arr, tq, fz, g1, g2, g3, g4, g5⟩ := hR.blkR hk (by rw [hc]; rfl)
  rw [q1] at h3; injection h3 with h3; injection h3 with e1 e2; subst e1; subst e2
  subst hj
  have htq : tq = e := (g3.2.is hne (by rw [hke]; exact hlt0)).trans hke
  subst htq
  have hsh : w.shape? lc = some (tq, arr.size) := by simp [World.shape?, g1]
  have hlen : l.length ≤ arr.size := by rw [g2]; have := g4; rw [hc] at this; simpa [AV.list, AV.parts] using this
  have hrun := Lib.run_unsafeString_row (P := P) w pt it ty tq hp hcl lc arr.size hsh l (fun h => by simp [h] at h0) hlen (by omega) (fun i x hi => by
    rw [add_at, Nat.zero_add, cell_of_row w lc i arr tq fz g1]
    obtain ⟨_, yv, r1, r2⟩ := g5 i (.u8 x) (by rw [hc]; simp [AV.list, AV.parts, hi])
    rw [r1, r2.u8_inv])
  obtain ⟨w', hw'⟩ : ∃ w', w' = w.freeze ⟨lc, 0, none⟩ l.length := ⟨_, rfl⟩
  rw [← hw'] at hrun
  have hl : ∃ fz' : Nat × Nat, w'.heap[lc]? = some (.cells arr tq fz') ∧ fz'.1 = 0 ∧ l.length ≤ fz'.2 := by
    rw [hw']
    unfold World.freeze
    rw [if_neg (by omega)]
    simp only [Array.getElem?_modify, if_true, g1, Option.map_some]
    refine ⟨_, rfl, ?_, ?_⟩
    · split <;> simp
    · split <;> simp <;> omega
  have ho : ∀ j, j ≠ lc → w'.heap[j]? = w.heap[j]? := fun j hj => by
    rw [hw']
    unfold World.freeze
    rw [if_neg (by omega)]
    simp only [Array.getElem?_modify]
    rw [if_neg (fun h => hj h.symm)]
  have hsz : w'.heap.size = w.heap.size := by
    rw [hw']
    unfold World.freeze
    rw [if_neg (by omega)]
    simp
  have hfr : w'.os = w.os ∧ w'.tape = w.tape ∧ w'.output = w.output := by
    rw [hw']
    unfold World.freeze
    rw [if_neg (by omega)]
    exact ⟨rfl, rfl, rfl⟩
  have hdr : DrOk w w' := by
    rw [hw']
    unfold World.freeze
    rw [if_neg (by omega)]
    exact .same rfl
  obtain ⟨fz', hl, hz1, hz2⟩ := hl
  unfold Oper.wp
  have hex : (execOp a.eval ⟨d, .call { callee := .builtin .unsafeString, args := #[x, y], argTypes := #[pt, it] }, ty, ps, af, gd⟩).run P w = .ok (.value (.string ⟨l.toArray⟩)) w' := by
    simp [execOp, resolve, invoke, builtin, hrx, hry, hrun]
  rw [hex]
  refine hK _ w' E (fun _ _ => rfl) (Emb.dx_refl _ _) (.str l) ⟨fun n' k' hn => ?_, fun n1 n2 k1 k2 l1 s1 s1' f1 f2 f3 f4 f5 => ?_, fun n1 k1 l1 s1 f1 f2 f3 => ?_, fun a1 L1 s9 ha => ?_⟩ ⟨hfr.1, hfr.2.1, hfr.2.2, Nat.le_of_eq hsz.symm, fun j hj hns => ho j (fun e => hns (by rw [e]; exact hR.own b k lc _ hk hown q1)), hdr⟩
  rotate_right 1
  · have hd := hR.deep a1 L1 s9 ha
    refine ⟨hd.1.mono (ho a1 (fun e => hd.2 b k _ hk hown (by rw [q1, e]))), fun n2 k2 s2 h1 h2 => ?_⟩
    rw [upd_one] at h1
    split at h1
    · injection h1 with h1; subst h1; cases h2
    · exact hd.2 n2 k2 s2 h1 h2
  · rw [upd_one] at hn
    split at hn
    · rename_i e; subst e; injection hn with hn; subst hn
      exact ⟨lc, _, q1, .row rfl ⟨arr, tq, fz', hl, g2, ⟨⟨(fun h => by cases h), fun h => absurd h (frz_ne tq), fun _ _ _ => ⟨hz1, by simpa [AV.list, AV.parts] using hz2⟩⟩, .inr (.inr (.inl rfl))⟩, by rw [hc] at g4; exact g4, by rw [hc] at g5; exact g5⟩⟩
    · rename_i e
      obtain ⟨l1, s1, f1, f2⟩ := hR.blk n' k' hn
      exact ⟨l1, s1, f1, f2.mono (Emb.le_refl _) (ho l1 (fun el => by subst el; exact e (hR.inj b n' k k' l1 _ s1 hk hn hown q1 f1).symm))⟩
  · rw [upd_one] at f1 f2
    split at f1
    · injection f1 with f1; subst f1; cases f3
    · split at f2
      · rename_i e1 e2; subst e2; injection f2 with f2; subst f2
        exact hR.inj n1 n2 k1 k l1 s1 s1' f1 hk f3 f4 f5
      · exact hR.inj n1 n2 k1 k2 l1 s1 s1' f1 f2 f3 f4 f5
  · rw [upd_one] at f1
    split at f1
    · injection f1 with f1; subst f1; cases f2
    · exact hR.own n1 k1 l1 s1 f1 f2 f3
end
section
variable {P : Program} {T : Nat → Option AV} {H : Hp} {nm : Nat} {wr : Bool} {d : Option Tmp} {ty : TypeId} {ps : String} {af : Array Edge} {gd : Option (Nat × Bool)} {t t2 e : TypeId} {x y : Operand} {b n z : Nat} {zv : Value}
theorem ap_catS {l s : List UInt8} (ht : P.underlying t = some (.slice e)) (hi : Inf P e 1 zv) (ht2 : P.underlying t2 = some .string) (hx : aev T x = some (.sl b 0 n 1)) (hk : H b = some ⟨.aggB l, e, true⟩) (hy : aev T y = some (.str s)) (hn : n = l.length) (hlim : n + s.length ≤ 10000000000) :
    OpSem P T H ⟨d, .call { callee := .builtin .append, args := #[x, y], argTypes := #[t, t2] }, ty, ps, af, gd⟩ nm wr (.sl nm 0 (n + s.length) 1) [(nm, some ⟨.aggB (l ++ s), e, true⟩), (b, none)] :=
  ap_append ht ht2 (.inl rfl) hi hx hk rfl rfl (by simp [AV.len, hn]) (srcs_str hy) (by simp [AV.list, AV.parts]) hlim
end
theorem op_makeFunc {P : Program} {T : Nat → Option AV} {H : Hp} {f : FuncId} {cap : Array Operand} {caps : List AV} {d ty ps af gd} {nm : Nat} {wr : Bool} (hl : caps.length = cap.size) (hc : ∀ (i : Nat) x u, cap[i]? = some x → caps[i]? = some u → aev T x = some u) :
    OpSem P T H ⟨d, .makeFunc (.func f) #[] cap, ty, ps, af, gd⟩ nm wr (.clo f caps) [] :=
  .quiet fun E a w hop => by
    refine ⟨.func (.func f) #[] (cap.map a.eval), by simp [execOp, Instr.makeFunc], .clo _ _ _ (by simpa using hl) (fun i x y hx hy => ?_)⟩
    obtain ⟨hq, rfl⟩ := Array.getElem?_eq_some_iff.1 hy
    have hi : i < cap.size := by simpa using hq
    have hcx := hc i cap[i] x (Array.getElem?_eq_getElem hi) hx
    simp only [Array.getElem_map]
    exact hop cap[i] (by simp [Op.operands]) x hcx
theorem op_makeFunc1 {P : Program} {T : Nat → Option AV} {H : Hp} {f : FuncId} {x : Operand} {u : AV} {d ty ps af gd} {nm : Nat} {wr : Bool} (hx : aev T x = some u) :
    OpSem P T H ⟨d, .makeFunc (.func f) #[] #[x], ty, ps, af, gd⟩ nm wr (.clo f [u]) [] :=
  op_makeFunc rfl (fun i x' u' h1 h2 => by
    match i with
    | 0 => simp at h1 h2; subst h1; subst h2; exact hx
    | i + 1 => simp at h1)
/-- bytealg.CountString. -/
theorem op_countStr {P : Program} {T : Nat → Option AV} {H : Hp} {nm : Nat} {wr : Bool} {d : Option Tmp} {ty : TypeId} {ps : String} {af : Array Edge} {gd : Option (Nat × Bool)} {x y : Operand} {s : List UInt8} {c : UInt8} {f : FuncId} {fn : Func} {ts : Array TypeId} (hf : P.funcs[f]? = some fn) (hname : (fn.name == "runtime.NumGoroutine") = false) (hb : fn.body.isNone = true) (hn : (Extern.findNext fn).isNone = true)
    (he : (Extern.find fn) = some Extern.BytealgCount.count) (hx : aev T x = some (.str s)) (hy : aev T y = some (.u8 c)) : OpSem P T H ⟨d, .call { callee := .value (.func f), args := #[x, y], argTypes := ts }, ty, ps, af, gd⟩ nm wr (.i64 ((s.count c : Nat) : Int)) [] :=
  .quiet fun E ac w h => by
    have h1 := (h x (by simp [Op.operands, Call.operands]) _ hx).str_inv
    have h2 := (h y (by simp [Op.operands, Call.operands]) _ hy).u8_inv
    have e := Lib.run_countString (P := P) ⟨s.toArray⟩ (c.toNat : Int) w
    rw [show ((c.toNat : Int).toNat).toUInt8 = c by simp] at e
    have hrun : (callFunc f #[ac.eval x, ac.eval y]).run P w = .ok (.value (.int .i64 ((s.count c : Nat) : Int))) w := by rw [h1, h2]; exact run_callFunc_ext hf hname hb hn he e
    exact ⟨_, run_exec_func (by simpa using hrun), .i64 _⟩
/-- bytealg.IndexByteString. -/
theorem op_indexByteStr {P : Program} {T : Nat → Option AV} {H : Hp} {nm : Nat} {wr : Bool} {d : Option Tmp} {ty : TypeId} {ps : String} {af : Array Edge} {gd : Option (Nat × Bool)} {x y : Operand} {s : List UInt8} {c : UInt8} {f : FuncId} {fn : Func} {ts : Array TypeId} (hf : P.funcs[f]? = some fn) (hname : (fn.name == "runtime.NumGoroutine") = false) (hb : fn.body.isNone = true) (hn : (Extern.findNext fn).isNone = true)
    (he : (Extern.find fn) = some Extern.BytealgIndexByte.indexByte) (hx : aev T x = some (.str s)) (hy : aev T y = some (.u8 c)) : OpSem P T H ⟨d, .call { callee := .value (.func f), args := #[x, y], argTypes := ts }, ty, ps, af, gd⟩ nm wr (.i64 (Lib.indexByte s c)) [] :=
  .quiet fun E ac w h => by
    have h1 := (h x (by simp [Op.operands, Call.operands]) _ hx).str_inv
    have h2 := (h y (by simp [Op.operands, Call.operands]) _ hy).u8_inv
    have e := Lib.run_indexByteString (P := P) ⟨s.toArray⟩ (c.toNat : Int) w
    rw [show ((c.toNat : Int).toNat).toUInt8 = c by simp] at e
    have hrun : (callFunc f #[ac.eval x, ac.eval y]).run P w = .ok (.value (.int .i64 (Lib.indexByte s c))) w := by rw [h1, h2]; exact run_callFunc_ext hf hname hb hn he e
    exact ⟨_, run_exec_func (by simpa using hrun), .i64 _⟩
/-- So many rounds of a loop, the last of which leaves it. -/
def EvR (P : Program) (nt : Nat) (c : Code) (post : Exit → St → Prop) : Nat → St → Prop
  | 0, _ => False
  | n + 1, st => Ev P nt c st (thenA (fun st' => EvR P nt c post n st') post)
theorem Ev.rounds {P : Program} {nt : Nat} {c : Code} {st : St} {post : Exit → St → Prop} (n : Nat) (h : EvR P nt c post n st) : Ev P nt (.loop c) st post := by
  intro E S n0 a w hn hR
  refine wp_loop_rounds n ?_
  have key : ∀ (n : Nat) (st : St) (E1 : Emb) (a1 : Act) (w1 : World), EvR P nt c post n st → 1000 ≤ st.nx → RS E1 S n0 nt st a1 w1 → Emb.kp S E E1 → Fr S w w1 →
      Code.rounds P c (Done E S n0 nt (fun e st' => 1000 ≤ st'.nx ∧ post e st') w) n a1 w1 := by
    intro n
    induction n with
    | zero => intro st E1 a1 w1 h; exact h.elim
    | succ n ih =>
      intro st E1 a1 w1 h hn1 hR1 hE1 hF1
      rw [rounds_succ]
      refine wp_mono (h E1 S n0 a1 w1 hn1 hR1) fun e a' w' hD => ?_
      cases e with
      | normal =>
        obtain ⟨st', E', ⟨hn', h1⟩, h2, h3, h4⟩ := hD
        exact ih st' E' a' w' h1 hn' h3 (hE1.trans h2) (hF1.trans h4)
      | _ => exact Done.trans hE1 hF1 hD
  exact key n st E a w h hn hR (Emb.kp_refl _ _) (Fr.refl _ _)
/-- A row's value, cell by cell. -/
def RelAll (E : Emb) : List AV → List Value → Prop
  | [], [] => True
  | x :: xs, y :: ys => Rel E x y ∧ RelAll E xs ys
  | _, _ => False
theorem RelAll.spec {E : Emb} : ∀ {cs : List AV} {ds : List Value}, RelAll E cs ds → cs.length = ds.length ∧ ∀ (i : Nat) x y, cs[i]? = some x → ds[i]? = some y → Rel E x y
  | [], [], _ => ⟨rfl, fun i x y h => by simp at h⟩
  | [], _ :: _, h => h.elim
  | _ :: _, [], h => h.elim
  | x :: xs, y :: ys, h => by
    obtain ⟨h1, h2⟩ := h.2.spec
    refine ⟨by simp [h1], fun i u v hu hv => ?_⟩
    cases i with
    | zero => simp at hu hv; subst hu; subst hv; exact h.1
    | succ i => simp at hu hv; exact h2 i u v hu hv
theorem rel_agg {E : Emb} {cs : List AV} {ds : List Value} (h1 : cs.all AV.one = true) (h : RelAll E cs ds) : Rel E (.agg cs) (.agg ds.toArray) :=
  .agg _ cs ds.toArray rfl (by simpa using h.spec.1) (List.all_eq_true.1 h1) (fun i x y hx hy => h.spec.2 i x y hx (by simpa using hy))
/-- The cells of a literal that gives them all, in their order. -/
def idxd : Nat → List AV → List (Nat × AV)
  | _, [] => []
  | k, u :: r => (k, u) :: idxd (k + 1) r
theorem putAll_full : ∀ (us done rest : List AV), rest.length = us.length → us.all AV.one = true → putAll (.agg (done ++ rest)) (idxd done.length us) = some (.agg (done ++ us))
  | [], done, rest, h, _ => by
    have : rest = [] := List.eq_nil_of_length_eq_zero h
    subst this; rfl
  | u :: us, done, [], h, _ => by simp at h
  | u :: us, done, q :: rest, h, h1 => by
    simp only [List.all_cons, Bool.and_eq_true] at h1
    have hp : AV.put (.agg (done ++ q :: rest)) done.length u = some (.agg ((done ++ [u]) ++ rest)) := by
      simp only [AV.put, h1.1]
      congr 2
      rw [List.set_append_right _ _ (Nat.le_refl _)]; simp
    simp only [idxd, putAll, hp]
    have := putAll_full us (done ++ [u]) rest (by simpa using h) h1.2
    simpa using this
theorem op_buildFull {P : Program} {T : Nat → Option AV} {H : Hp} {nm : Nat} {wr : Bool} {d : Option Tmp} {ty : TypeId} {ps : String} {af : Array Edge} {gd : Option (Nat × Bool)} {t e : TypeId} {n : Nat} {parts : Array (Nat × Operand)} {zv : Value} {u0 : AV} (us : List AV) (hu : P.underlying t = some (.array n e)) (hsz : (P.info? e).map (·.size) = some 1) (hz : (P.info? t).map (·.zero) = some (some (.agg (Array.replicate n zv)))) (hr0 : Rel Emb.nil u0 zv) (h0 : u0.one = true)
    (hp : PartsEv T n parts.toList (idxd 0 us)) (hl : us.length = n) (h1 : us.all AV.one = true) : OpSem P T H ⟨d, .build t parts, ty, ps, af, gd⟩ nm wr (.agg us) [] :=
  op_buildArr (us := idxd 0 us) (r0 := .agg (List.replicate n u0)) hu hsz hz (.agg _ _ _ rfl (by simp) (fun x hx => by rw [(List.mem_replicate.1 hx).2]; exact h0) (fun i x y hx hy => by
    rw [List.getElem?_replicate] at hx
    rw [Array.getElem?_replicate] at hy
    split at hx
    · rename_i hi
      rw [if_pos hi] at hy
      injection hx with hx; injection hy with hy; subst hx; subst hy; exact hr0
    · cases hx)) rfl (by simp) hp (by simpa using putAll_full us [] (List.replicate n u0) (by simp [hl]) h1)
end Go.Proofs.YtenocbhlbgcnfaaDoor
namespace Go.Proofs.YtenocbhlbgcnfaaDoor
open Go.RowKit
section
variable {P : Program} {T : Nat → Option AV} {H : Hp} {nm : Nat} {wr : Bool} {d : Option Tmp} {ty t t2 e : TypeId} {ps : String} {af : Array Edge} {gd : Option (Nat × Bool)} {x y : Operand} {zv : Value}
end
end Go.Proofs.YtenocbhlbgcnfaaDoor
namespace Go.Proofs.YtenocbhlbgcnfaaDoor
open Go.RowKit
section
variable {P : Program} {T : Nat → Option AV} {H : Hp} {nm : Nat} {wr : Bool} {d : Option Tmp} {ty t : TypeId} {ps : String} {af : Array Edge} {gd : Option (Nat × Bool)} {x y : Operand} {b o m : Nat} {k : ABlk} {u : AV}
end
end Go.Proofs.YtenocbhlbgcnfaaDoor
namespace Go.Proofs.YtenocbhlbgcnfaaDoor
theorem inf4 : Inf Tryd.prog 4 1 (.bool false) := Inf.mk (b := 1) (by kernel_rfl) (by decide) rfl
theorem inf5 : Inf Tryd.prog 5 1 (.int .u8 0) := Inf.mk (b := 1) (by kernel_rfl) (by decide) rfl
theorem inf9 : Inf Tryd.prog 9 1 (.string ⟨#[]⟩) := Inf.mk (b := 16) (by kernel_rfl) (by decide) rfl
theorem rel_zero9 : Rel Emb.nil (.str []) (.string ⟨#[]⟩) := Rel.str []
theorem inf23 : Inf Tryd.prog 23 1 (.slice none 0 0) := Inf.mk (b := 24) (by kernel_rfl) (by decide) rfl
theorem inf42 : Inf Tryd.prog 42 1 (.int .u32 0) := Inf.mk (b := 4) (by kernel_rfl) (by decide) rfl
theorem zero27 : (Tryd.prog.info? 27).map (·.zero) = some (some (.agg #[.int .i64 0, .slice none 0 0, .slice none 0 0, .slice none 0 0, .slice none 0 0])) := by kernel_rfl
theorem rel_zero27 : Rel Emb.nil (.agg [.i64 0, .nilsl, .nilsl, .nilsl, .nilsl]) (.agg #[.int .i64 0, .slice none 0 0, .slice none 0 0, .slice none 0 0, .slice none 0 0]) := rel_agg rfl ⟨.i64 0, .nilsl, .nilsl, .nilsl, .nilsl, trivial⟩
theorem zero30 : (Tryd.prog.info? 30).map (·.zero) = some (some (.agg #[.int .i64 0, .slice none 0 0, .slice none 0 0, .slice none 0 0, .slice none 0 0])) := by kernel_rfl
theorem rel_zero30 : Rel Emb.nil (.agg [.i64 0, .nilsl, .nilsl, .nilsl, .nilsl]) (.agg #[.int .i64 0, .slice none 0 0, .slice none 0 0, .slice none 0 0, .slice none 0 0]) := rel_agg rfl ⟨.i64 0, .nilsl, .nilsl, .nilsl, .nilsl, trivial⟩
theorem zero54 : (Tryd.prog.info? 54).map (·.zero) = some (some (.agg #[.pointer none, .slice none 0 0])) := by kernel_rfl
theorem rel_zero54 : Rel Emb.nil (.agg [.val (.pointer none), .nilsl]) (.agg #[.pointer none, .slice none 0 0]) := rel_agg rfl ⟨.val _, .nilsl, trivial⟩
theorem zero56 : (Tryd.prog.info? 56).map (·.zero) = some (some (.agg #[.pointer none, .slice none 0 0])) := by kernel_rfl
theorem rel_zero56 : Rel Emb.nil (.agg [.val (.pointer none), .nilsl]) (.agg #[.pointer none, .slice none 0 0]) := rel_agg rfl ⟨.val _, .nilsl, trivial⟩
theorem zero69 : (Tryd.prog.info? 69).map (·.zero) = some (some (.agg #[.int .i64 0, .string ⟨#[]⟩, .string ⟨#[]⟩])) := by kernel_rfl
theorem rel_zero69 : Rel Emb.nil (.agg [.i64 0, .str [], .str []]) (.agg #[.int .i64 0, .string ⟨#[]⟩, .string ⟨#[]⟩]) := rel_agg rfl ⟨.i64 0, .str [], .str [], trivial⟩
theorem zero93 : (Tryd.prog.info? 93).map (·.zero) = some (some (.agg #[.string ⟨#[]⟩, .nilIface])) := by kernel_rfl
theorem rel_zero93 : Rel Emb.nil (.agg [.str [], .err 131 0 (0, 0)]) (.agg #[.string ⟨#[]⟩, .nilIface]) := rel_agg rfl ⟨.str [], .err0 _ _, trivial⟩
end Go.Proofs.YtenocbhlbgcnfaaDoor
