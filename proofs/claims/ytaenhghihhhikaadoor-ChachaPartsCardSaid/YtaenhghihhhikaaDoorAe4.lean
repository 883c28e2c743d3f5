/-
  Operations on memory, strings and slices over abstract values. Nothing of the program is named here.
-/
import Derived.Test.YtaenhghihhhikaaDoorAe3
import Derived.Great.BuildSlice
import Derived.Laws.Concat
import Derived.Laws.OwnMore
namespace Go.Proofs.YtaenhghihhhikaaDoor
open Go.RowKit

def AV.len : AV → Nat
  | .agg cs => cs.length
  | .aggB l => l.length
  | .agg32 l => l.length
  | .agg64 l => l.length
  | .aggI l => l.length
  | .aggS l => l.length
  | _ => 0
theorem len_list (a : AV) : a.list.length = a.len := by cases a <;> simp [AV.list, AV.parts, AV.len]
def AV.nth : AV → Nat → Option AV
  | .agg cs, i => cs[i]?
  | .aggB l, i => some (.u8 (l.getD i 0))
  | .agg32 l, i => some (.u32 (l.getD i 0))
  | .agg64 l, i => some (.u64 (l.getD i 0))
  | .aggI l, i => some (.i64 (l.getD i 0))
  | .aggS l, i => some (.str (l.getD i []))
  | _, _ => none
theorem map_nth {α : Type} {f : α → AV} {l : List α} {z : α} {i : Nat} (h : i < l.length) : (l.map f)[i]? = some (f (l.getD i z)) := by
  simp [List.getD_eq_getElem?_getD, h]
theorem nth_list {a : AV} {i : Nat} {v : AV} (h : a.nth i = some v) (hi : i < a.len) : a.list[i]? = some v := by
  cases a with
  | agg cs => exact h
  | aggB l => simp only [AV.nth, Option.some.injEq] at h; subst h; exact map_nth hi
  | agg32 l => simp only [AV.nth, Option.some.injEq] at h; subst h; exact map_nth hi
  | agg64 l => simp only [AV.nth, Option.some.injEq] at h; subst h; exact map_nth hi
  | aggI l => simp only [AV.nth, Option.some.injEq] at h; subst h; exact map_nth hi
  | aggS l => simp only [AV.nth, Option.some.injEq] at h; subst h; exact map_nth hi
  | _ => cases h
/-- The row with one cell replaced. -/
def AV.put : AV → Nat → AV → Option AV
  | .agg cs, i, v => match v.one with
    | true => some (.agg (cs.set i v))
    | false => none
  | .aggB l, i, .u8 x => some (.aggB (l.set i x))
  | .agg32 l, i, .u32 x => some (.agg32 (l.set i x))
  | .agg64 l, i, .u64 x => some (.agg64 (l.set i x))
  | .aggI l, i, .i64 x => some (.aggI (l.set i x))
  | .aggS l, i, .str x => some (.aggS (l.set i x))
  | _, _, _ => none
theorem put_list {a a' v : AV} {i : Nat} (h : a.put i v = some a') : a'.list = a.list.set i v ∧ v.one = true ∧ a'.len = a.len := by
  unfold AV.put at h
  split at h
  · split at h
    · rename_i e; injection h with h; subst h; exact ⟨rfl, e, by simp [AV.len]⟩
    · cases h
  all_goals first
    | (injection h with h; subst h; exact ⟨by simp [AV.list, AV.parts, List.map_set], rfl, by simp [AV.len]⟩)
    | cases h
/-- Two rows, one behind the other. -/
def AV.cat : AV → AV → Option AV
  | .agg l, .agg m => some (.agg (l ++ m))
  | .aggB l, .aggB m => some (.aggB (l ++ m))
  | .agg32 l, .agg32 m => some (.agg32 (l ++ m))
  | .agg64 l, .agg64 m => some (.agg64 (l ++ m))
  | .aggI l, .aggI m => some (.aggI (l ++ m))
  | .aggS l, .aggS m => some (.aggS (l ++ m))
  | _, _ => none
theorem cat_list {a b c : AV} (h : a.cat b = some c) : c.list = a.list ++ b.list := by
  unfold AV.cat at h
  split at h <;> first
    | (injection h with h; subst h; simp [AV.list, AV.parts])
    | cases h

section
variable {P : Program} {T : Nat → Option AV} {H : Hp} {nm : Nat} {wr : Bool} {v u u1 u2 : AV} {d : Option Tmp} {ty : TypeId} {ps : String} {af : Array Edge} {gd : Option (Nat × Bool)} {t t' e : TypeId} {x y : Operand} {dd : TypeDesc} {b o n z i m : Nat} {k : ABlk}
theorem add_at (l o i : Nat) : (⟨l, o, none⟩ : Addr).add i = ⟨l, o + i, none⟩ := by unfold Addr.add; split <;> simp_all
theorem run_isAgg_no (hu : P.underlying t = some dd) (hna : (match dd with | .struct _ | .array _ _ => true | _ => false) = false) (w : World) : (isAgg t).run P w = .ok false w := by
  unfold isAgg
  simp only [Sem.run_bind, run_underlying hu, Result.andThen_ok]
  cases dd <;> first | rfl | cases hna
theorem run_isAgg_yes (hu : P.underlying t = some dd) (hna : (match dd with | .struct _ | .array _ _ => true | _ => false) = true) (w : World) : (isAgg t).run P w = .ok true w := by
  unfold isAgg
  simp only [Sem.run_bind, run_underlying hu, Result.andThen_ok]
  cases dd <;> first | rfl | cases hna
theorem run_sizeOf_is (hz : (P.info? e).map (·.size) = some z) (w : World) : (sizeOf e).run P w = .ok z w := by
  cases hq : P.info? e with
  | none => simp [hq] at hz
  | some i => simp [hq] at hz; simp [sizeOf, typeInfo, hq, hz]
theorem op_load (hu : P.underlying t = some dd) (hna : (match dd with | .struct _ | .array _ _ => true | _ => false) = false) (hx : aev T x = some (.ptr b o)) (hk : H b = some k) (hv : k.c.nth o = some v) (hlt : o < k.c.len) :
    OpSem P T H ⟨d, .load t x, ty, ps, af, gd⟩ nm wr v [] :=
  .reads fun E S a w h hR => by
    obtain ⟨l, s, h1, h2⟩ := (h x mem1 _ hx).ptr_inv
    obtain ⟨l', s', h3, h4⟩ := hR.blk b k hk
    rw [h1] at h3; injection h3 with h3; injection h3 with e1 e2; subst e1; subst e2
    obtain ⟨_, y, h5, h6⟩ := h4.cell (nth_list hv hlt)
    refine ⟨y, ?_, h6⟩
    simp [execOp, h2, Instr.loadAt, Instr.sureAddr, loadVar, run_isAgg_no hu hna, h5]
/-- A whole row. -/
theorem op_loadRow {cs : List AV} (hu : P.underlying t = some dd) (hna : (match dd with | .struct _ | .array _ _ => true | _ => false) = true) (hz : (P.info? t).map (·.size) = some m) (hx : aev T x = some (.ptr b 0)) (hk : H b = some k) (hc : k.c.parts = some cs) (hlt : k.c.len = m) :
    OpSem P T H ⟨d, .load t x, ty, ps, af, gd⟩ nm wr k.c [] :=
  .reads fun E S a w h hR => by
    obtain ⟨l, s, h1, h2⟩ := (h x mem1 _ hx).ptr_inv
    obtain ⟨l', s', h3, h4⟩ := hR.blk b k hk
    rw [h1] at h3; injection h3 with h3; injection h3 with e1 e2; subst e1; subst e2
    obtain ⟨arr, fz, g1, g2, g3, g4, g5⟩ := h4
    have hl : k.c.list = cs := by simp [AV.list, hc]
    rw [hl] at g4 g5
    have hlen : cs.length = m := by rw [← hl, len_list]; exact hlt
    have hr := run_loadCells_list (P := P) w ⟨l, 0, none⟩ (arr.toList.take m) (fun j v hj => by
      rw [add_at, Nat.zero_add, cell_of_row w l j arr k.elem fz g1]
      rw [List.getElem?_take] at hj
      split at hj
      · simpa using hj
      · cases hj)
    have hlen2 : (arr.toList.take m).length = m := by simp; omega
    rw [hlen2] at hr
    refine ⟨.agg (arr.toList.take m).toArray, ?_, ?_⟩
    · simp [execOp, h2, Instr.loadAt, Instr.sureAddr, loadVar, run_isAgg_yes hu hna, run_sizeOf_is hz, hr]
    · refine .agg _ cs _ hc (by simp; omega) (fun x hx => ?_) (fun i x y hx hy => ?_)
      · obtain ⟨i, hi, rfl⟩ := List.mem_iff_getElem.1 hx
        exact (g5 i _ (List.getElem?_eq_getElem hi)).1
      · obtain ⟨_, y', h6, h7⟩ := g5 i x hx
        have hi : i < m := by rw [← hlen]; exact (List.getElem?_eq_some_iff.1 hx).1
        simp only [List.getElem?_toArray, List.getElem?_take, hi, if_true] at hy
        rw [Array.getElem?_toList, h6] at hy
        injection hy with hy; subst hy; exact h7
theorem run_storeCells_gen (P : Program) (l off : Nat) (elem : TypeId) (fz : Nat × Nat) : ∀ (vs : List Value) (i : Nat) (arr : Array Value) (w : World), w.heap[l]? = some (.cells arr elem fz) → (∀ j, j < arr.size → ¬ (fz.1 ≤ j ∧ j < fz.2)) →
    off + i + vs.length ≤ arr.size → (∀ u ∈ vs, u.oneCell' = true) → ∃ arr', (storeCells ⟨l, off, none⟩ vs i).run P w = .ok () (w.setRow l arr') ∧ arr'.size = arr.size ∧
      (∀ j, arr'[j]? = if off + i ≤ j ∧ j < off + i + vs.length then vs[j - (off + i)]? else arr[j]?) := by
  intro vs
  induction vs with
  | nil =>
    intro i arr w hg _ _ _
    refine ⟨arr, ?_, rfl, fun j => by simp; intro h1 h2; omega⟩
    have hheap : (w.setRow l arr).heap = w.heap := by
      unfold World.setRow
      apply Array.ext_getElem?
      intro j
      rw [Array.getElem?_modify]
      by_cases e : l = j
      · subst e; simp [hg]
      · simp [e]
    have : w.setRow l arr = w := by
      cases w
      simp only [World.setRow] at hheap ⊢
      rw [hheap]
    simp [storeCells, this]
  | cons v vs ih =>
    intro i arr w hg hf hle h1
    have hlt : off + i < arr.size := by simp at hle; omega
    have hc : w.cell? ⟨l, off + i, none⟩ = arr[off + i]? := cell_of_row w l (off + i) arr elem fz hg
    rw [Array.getElem?_eq_getElem hlt] at hc
    have hfr : w.frozen? ⟨l, off + i, none⟩ = false := by
      have := hf (off + i) hlt
      unfold World.frozen?
      simp only [hg]
      cases h : (decide (fz.1 ≤ off + i) && decide (off + i < fz.2)) with
      | false => rfl
      | true => simp at h; exact absurd h this
    have hset : (w.setCell ⟨l, off + i, none⟩ v).heap[l]? = some (.cells (arr.setIfInBounds (off + i) v) elem fz) := by
      simp [World.setCell, Array.getElem?_modify, hg]
    obtain ⟨arr', hr, hs, hv⟩ := ih (i + 1) (arr.setIfInBounds (off + i) v) (w.setCell ⟨l, off + i, none⟩ v) hset (by simpa using hf) (by simp at hle ⊢; omega) (fun u hu => h1 u (List.mem_cons_of_mem _ hu))
    refine ⟨arr', ?_, by simpa using hs, fun j => ?_⟩
    · have hst := run_store P w ⟨l, off + i, none⟩ v .plain (h1 v List.mem_cons_self)
      rw [hc] at hst
      simp only [hfr, Bool.false_eq_true, if_false] at hst
      have heq : (w.setCell ⟨l, off + i, none⟩ v).setRow l arr' = w.setRow l arr' := by
        unfold World.setRow World.setCell
        simp only
        congr 1
        apply Array.ext_getElem?
        intro j
        rw [Array.getElem?_modify, Array.getElem?_modify, Array.getElem?_modify]
        by_cases e : l = j
        · subst e; simp [hg]
        · simp [e]
      simp only [storeCells, Sem.run_bind, add_at, hst, Result.andThen_ok, hr, heq]
    · rw [hv j]
      by_cases e1 : off + (i + 1) ≤ j ∧ j < off + (i + 1) + vs.length
      · rw [if_pos e1, if_pos (by simp; omega)]
        rw [show j - (off + i) = (j - (off + (i + 1))) + 1 by omega]; simp
      · rw [if_neg e1, Array.getElem?_setIfInBounds]
        by_cases e2 : off + i = j
        · subst e2; simp [hlt]
        · rw [if_neg e2, if_neg (by simp; omega)]
theorem op_store {c' : AV} (hz : (P.info? t).map (·.size) = some 1) (hx : aev T x = some (.ptr b o)) (hy : aev T y = some u) (hk : H b = some k) (hown : k.own = true) (hc : k.c.put o u = some c') (hlt : o < k.c.len) :
    OpSem P T H ⟨d, .store t x y, ty, ps, af, gd⟩ nm true (.val undef) [(b, some { k with c := c' })] := by
  intro E S n0 H2 a w hS hn _ _ hwr hle hop hR hf K Q hK
  have e0 := hwr rfl; subst e0
  obtain ⟨l, s, h1, h2⟩ := (hop x mem21 _ hx).ptr_inv
  obtain ⟨l', s', h3, h4⟩ := hR.blk b k hk
  rw [h1] at h3; injection h3 with h3; injection h3 with e1 e2; subst e1; subst e2
  obtain ⟨arr, fz, g1, g2, g3, g4, g5⟩ := h4
  have hu := hop y mem22 _ hy
  obtain ⟨p1, p2, p3⟩ := put_list hc
  have hone := hu.one p2
  have hll := len_list k.c
  obtain ⟨arr', hr, hs, hv⟩ := run_storeCells_gen P l o k.elem fz [a.eval y] 0 arr w g1 (by rw [g2]; exact g3 hown) (by simp; omega) (by simp [hone])
  have hcells : (a.eval y).cells = #[a.eval y] := by
    cases hq : a.eval y <;> first | rfl | (rw [hq] at hone; cases hone)
  unfold Oper.wp
  have hrun : (execOp a.eval ⟨d, .store t x y, ty, ps, af, gd⟩).run P w = .ok .skip (w.setRow l arr') := by
    simp [execOp, h2, Instr.storeAt, Instr.sureAddr, storeVar, run_sizeOf_is hz, hcells, hr]
  rw [hrun]
  refine hK undef _ E (fun _ _ => rfl) (.val _) (hR.write hk hown h1 arr arr' fz g1 hs c' (by rw [len_list, p3]; omega) fun i q hq => ?_) (Fr.setRow w l arr' (hR.own b k l s hk hown h1))
  rw [p1, List.getElem?_set] at hq
  by_cases ei : o = i
  · subst ei
    rw [if_pos rfl, if_pos (by omega)] at hq
    injection hq with hq; subst hq
    refine ⟨p2, a.eval y, ?_, hu⟩
    rw [hv]; simp
  · rw [if_neg ei] at hq
    obtain ⟨q1, q2, q3, q4⟩ := g5 i q hq
    refine ⟨q1, q2, ?_, q4⟩
    rw [hv, if_neg (by simp; omega)]; exact q3
/-- A whole row is stored. -/
theorem op_storeRow {cs : List AV} (hz : (P.info? t).map (·.size) = some m) (hx : aev T x = some (.ptr b 0)) (hy : aev T y = some u) (hk : H b = some k) (hown : k.own = true) (hc : u.parts = some cs) (hm : u.len = m) (hlt : k.c.len = m) :
    OpSem P T H ⟨d, .store t x y, ty, ps, af, gd⟩ nm true (.val undef) [(b, some { k with c := u })] := by
  intro E S n0 H2 a w hS hn _ _ hwr hle hop hR hf K Q hK
  have e0 := hwr rfl; subst e0
  obtain ⟨l, s, h1, h2⟩ := (hop x mem21 _ hx).ptr_inv
  obtain ⟨l', s', h3, h4⟩ := hR.blk b k hk
  rw [h1] at h3; injection h3 with h3; injection h3 with e1 e2; subst e1; subst e2
  obtain ⟨arr, fz, g1, g2, g3, g4, g5⟩ := h4
  obtain ⟨ds, q1, q2, q3, q4⟩ := (hop y mem22 _ hy).agg_inv hc
  have hl : u.list = cs := by simp [AV.list, hc]
  have hll := len_list k.c
  have hlu := len_list u
  rw [hl] at hlu
  have hds : ds.size = m := by omega
  obtain ⟨arr', hr, hs, hv⟩ := run_storeCells_gen P l 0 k.elem fz ds.toList 0 arr w g1 (by rw [g2]; exact g3 hown) (by simp; omega) (fun z hz => by
    obtain ⟨i, hi, rfl⟩ := List.mem_iff_getElem.1 hz
    have hi' : i < cs.length := by simp at hi; omega
    have hi2 : i < ds.size := by simpa using hi
    have := (q4 i cs[i] ds[i] (List.getElem?_eq_getElem hi') (Array.getElem?_eq_getElem hi2)).one (q3 _ (List.getElem_mem hi'))
    simpa using this)
  unfold Oper.wp
  have hrun : (execOp a.eval ⟨d, .store t x y, ty, ps, af, gd⟩).run P w = .ok .skip (w.setRow l arr') := by
    simp [execOp, h2, q1, Instr.storeAt, Instr.sureAddr, storeVar, run_sizeOf_is hz, Value.cells, hds, hr]
  rw [hrun]
  refine hK undef _ E (fun _ _ => rfl) (.val _) (hR.write hk hown h1 arr arr' fz g1 hs u (by rw [hl]; omega) fun i q hq => ?_) (Fr.setRow w l arr' (hR.own b k l s hk hown h1))
  rw [hl] at hq
  have hi : i < cs.length := (List.getElem?_eq_some_iff.1 hq).1
  have hi2 : i < ds.size := by omega
  refine ⟨q3 q (List.mem_of_getElem? hq), ds[i], ?_, q4 i q ds[i] hq (Array.getElem?_eq_getElem hi2)⟩
  rw [hv, if_pos (by simp; omega)]; simp [hi2]
theorem row_cells {E : Emb} {cs : List AV} {yv : Value} (hc : u.parts = some cs) (hr : Rel E u yv) : ∃ ds, yv = .agg ds ∧ u.list.length ≤ ds.size ∧ (∀ (i : Nat) x, u.list[i]? = some x → x.one = true ∧ ∃ y, ds[i]? = some y ∧ Rel E x y) := by
  obtain ⟨ds, q1, q2, q3, q4⟩ := hr.agg_inv hc
  have hl : u.list = cs := by simp [AV.list, hc]
  refine ⟨ds, q1, by rw [hl]; omega, fun i x hx => ?_⟩
  rw [hl] at hx
  have hi : i < ds.size := by rw [← q2]; exact (List.getElem?_eq_some_iff.1 hx).1
  exact ⟨q3 x (List.mem_of_getElem? hx), ds[i], Array.getElem?_eq_getElem hi, q4 i x _ hx (Array.getElem?_eq_getElem hi)⟩
/-- A variable for a row. -/
theorem op_boxRow {cs : List AV} (hx : aev T x = some u) (hc : u.parts = some cs) : OpSem P T H ⟨d, .box t x, ty, ps, af, gd⟩ nm wr (.ptr nm 0) [(nm, some ⟨u, t, true⟩)] :=
  .allocs fun E S a w h hR => by
    obtain ⟨ds, q1, q2, q3⟩ := row_cells hc (h x mem1 _ hx)
    exact ⟨.pointer (some ⟨w.heap.size, 0, none⟩), ds, (0, 0), w, by simp [execOp, Instr.box, newVar, newRow, q1, Value.cells], rfl, rfl, rfl, rfl, .ptr _ _ _ _ (Emb.put_same _ _ _), fun i _ h => by have := h.2; simp at this, q2, q3⟩
theorem op_boxOne (hx : aev T x = some u) (hc : u.one = true) : OpSem P T H ⟨d, .box t x, ty, ps, af, gd⟩ nm wr (.ptr nm 0) [(nm, some ⟨.agg [u], t, true⟩)] :=
  .allocs fun E S a w h hR => by
    have hr := h x mem1 _ hx
    have hone := hr.one hc
    have hcells : (a.eval x).cells = #[a.eval x] := by
      cases hq : a.eval x <;> first | rfl | (rw [hq] at hone; cases hone)
    refine ⟨.pointer (some ⟨w.heap.size, 0, none⟩), #[a.eval x], (0, 0), w, by simp [execOp, Instr.box, newVar, newRow, hcells], rfl, rfl, rfl, rfl, .ptr _ _ _ _ (Emb.put_same _ _ _), fun i _ h => by have := h.2; simp at this, by simp [AV.list, AV.parts], fun i q hq => ?_⟩
    match i, hq with
    | 0, hq => simp [AV.list, AV.parts] at hq; subst hq; exact ⟨hc, a.eval x, rfl, hr⟩
    | i + 1, hq => simp [AV.list, AV.parts] at hq
/-- A new variable with its zero value: a row. -/
theorem op_allocRow {cs : List AV} {zv : Value} (hz : (P.info? t).map (·.zero) = some (some zv)) (hr : Rel (fun _ => none) u zv) (hc : u.parts = some cs) : OpSem P T H ⟨d, .alloc t, ty, ps, af, gd⟩ nm wr (.ptr nm 0) [(nm, some ⟨u, t, true⟩)] :=
  .allocs fun E S a w h hR => by
    obtain ⟨ds, q1, q2, q3⟩ := row_cells hc (hr.mono (E' := E) (fun _ _ h => by cases h))
    have hzr : (zeroValue t).run P w = .ok zv w := by
      cases hq : P.info? t with
      | none => simp [hq] at hz
      | some i => simp [hq] at hz; simp [zeroValue, typeInfo, hq, hz]
    exact ⟨.pointer (some ⟨w.heap.size, 0, none⟩), ds, (0, 0), w, by simp [execOp, Instr.alloc, newVar, newRow, hzr, q1, Value.cells], rfl, rfl, rfl, rfl, .ptr _ _ _ _ (Emb.put_same _ _ _), fun i _ h => by have := h.2; simp at this, q2, q3⟩
theorem op_allocOne {zv : Value} (hz : (P.info? t).map (·.zero) = some (some zv)) (hr : Rel (fun _ => none) u zv) (hc : u.one = true) : OpSem P T H ⟨d, .alloc t, ty, ps, af, gd⟩ nm wr (.ptr nm 0) [(nm, some ⟨.agg [u], t, true⟩)] :=
  .allocs fun E S a w h hR => by
    have hr' := hr.mono (E' := E) (fun _ _ h => by cases h)
    have hone := hr.one hc
    have hcells : zv.cells = #[zv] := by
      cases hq : zv <;> first | rfl | (rw [hq] at hone; cases hone)
    have hzr : (zeroValue t).run P w = .ok zv w := by
      cases hq : P.info? t with
      | none => simp [hq] at hz
      | some i => simp [hq] at hz; simp [zeroValue, typeInfo, hq, hz]
    refine ⟨.pointer (some ⟨w.heap.size, 0, none⟩), #[zv], (0, 0), w, by simp [execOp, Instr.alloc, newVar, newRow, hzr, hcells], rfl, rfl, rfl, rfl, .ptr _ _ _ _ (Emb.put_same _ _ _), fun i _ h => by have := h.2; simp at this, by simp [AV.list, AV.parts], fun i q hq => ?_⟩
    match i, hq with
    | 0, hq => simp [AV.list, AV.parts] at hq; subst hq; exact ⟨hc, zv, rfl, hr'⟩
    | i + 1, hq => simp [AV.list, AV.parts] at hq

/-! Lengths, indices, slices. -/
theorem op_len_run {i : Int} (hx : aev T x = some u) (h : ∀ (E : Emb) (y : Value) (w : World), Rel E u y → (Builtin.len_ #[t] ty #[y]).run P w = .ok (.int .i64 i) w) :
    OpSem P T H ⟨d, .call { callee := .builtin .len, args := #[x], argTypes := #[t] }, ty, ps, af, gd⟩ nm wr (.i64 i) [] :=
  .quiet fun E a w hop => by
    have hr := hop x (by simp [Op.operands, Call.operands]) _ hx
    exact ⟨.int .i64 i, by simp [execOp, resolve, invoke, builtin, h E _ w hr], .i64 _⟩
theorem op_len_str {s : List UInt8} (ht : P.underlying t = some .string) (hx : aev T x = some (.str s)) :
    OpSem P T H ⟨d, .call { callee := .builtin .len, args := #[x], argTypes := #[t] }, ty, ps, af, gd⟩ nm wr (.i64 (s.length : Int)) [] :=
  op_len_run hx fun E y w hr => by
    have hs : (⟨s.toArray⟩ : ByteArray).size = s.length := by simp [ByteArray.size]
    rw [hr.str_inv]; simp [Builtin.len_, run_underlying ht, goInt, hs]
theorem op_len_sl (ht : P.underlying t = some (.slice e)) (hx : aev T x = some (.sl b o n z)) :
    OpSem P T H ⟨d, .call { callee := .builtin .len, args := #[x], argTypes := #[t] }, ty, ps, af, gd⟩ nm wr (.i64 (n : Int)) [] :=
  op_len_run hx fun E y w hr => by
    rcases hr.sl_inv with ⟨l, s, c, _, _, _, _, e⟩ | ⟨ad, h0, e⟩
    · rw [e]; simp [Builtin.len_, run_underlying ht, goInt]
    · rw [e, h0]; simp [Builtin.len_, run_underlying ht, goInt]
theorem op_len_nil (ht : P.underlying t = some (.slice e)) (hx : aev T x = some .nilsl) :
    OpSem P T H ⟨d, .call { callee := .builtin .len, args := #[x], argTypes := #[t] }, ty, ps, af, gd⟩ nm wr (.i64 0) [] :=
  op_len_run hx fun E y w hr => by rw [hr.nilsl_inv]; simp [Builtin.len_, run_underlying ht, goInt]
theorem op_len_arr (ht : P.underlying t = some (.array n e)) (hx : aev T x = some u) :
    OpSem P T H ⟨d, .call { callee := .builtin .len, args := #[x], argTypes := #[t] }, ty, ps, af, gd⟩ nm wr (.i64 (n : Int)) [] :=
  op_len_run hx fun E y w hr => by simp [Builtin.len_, run_underlying ht, goInt]
theorem op_index_str {s : List UInt8} {j : Int} (ht : P.underlying t = some .string) (hx : aev T x = some (.str s)) (hy : aev T y = some (.i64 j)) (hj : j = (i : Int)) (hlt : i < s.length) :
    OpSem P T H ⟨d, .index t x y, ty, ps, af, gd⟩ nm wr (.u8 (s.getD i 0)) [] :=
  .quiet fun E a w h => by
    subst hj
    have h1 := (h x mem21 _ hx).str_inv
    have h2 := (h y mem22 _ hy).i64_inv
    refine ⟨.int .u8 ((s.getD i 0).toNat : Int), ?_, .u8 _⟩
    have hg : (⟨s.toArray⟩ : ByteArray)[i]? = some (s.getD i 0) := by
      have hsz : i < (⟨s.toArray⟩ : ByteArray).size := by simpa [ByteArray.size] using hlt
      rw [getElem?_pos (⟨s.toArray⟩ : ByteArray) i hsz]
      simp [List.getD_eq_getElem?_getD, hlt]
      rfl
    simp [execOp, h1, h2, Instr.index, asIntOf, run_underlying ht, hg]
/-- A cell of a row that is held by value. -/
theorem op_index_row {cs : List AV} {j : Int} {n : Nat} (ht : P.underlying t = some (.array n e)) (he : P.underlying e = some dd) (hna : (match dd with | .struct _ | .array _ _ => true | _ => false) = false) (hz : (P.info? e).map (·.size) = some 1) (hx : aev T x = some u) (hc : u.parts = some cs)
    (hy : aev T y = some (.i64 j)) (hj : j = (i : Int)) (hv : u.nth i = some v) (hlt : i < u.len) (hn : i < n) :
    OpSem P T H ⟨d, .index t x y, ty, ps, af, gd⟩ nm wr v [] :=
  .quiet fun E a w h => by
    subst hj
    obtain ⟨ds, q1, q2, q3⟩ := row_cells hc (h x mem21 _ hx)
    have h2 := (h y mem22 _ hy).i64_inv
    obtain ⟨_, yv, h3, h4⟩ := q3 i v (nth_list hv hlt)
    refine ⟨yv, ?_, h4⟩
    have hp : (part e ds i).run P w = .ok yv w := by simp [part, run_isAgg_no he hna, h3]
    have hin : (0 : Int) ≤ (i : Int) ∧ (i : Int) < (n : Int) := by omega
    simp [execOp, q1, h2, Instr.index, asIntOf, run_underlying ht, hin, run_sizeOf_is hz, hp, hn]
theorem op_indexAddr {j : Int} (ht : P.underlying t = some (.slice e)) (hz : (P.info? e).map (·.size) = some z) (hx : aev T x = some (.sl b o n z)) (hy : aev T y = some (.i64 j)) (hj : j = (i : Int)) (hlt : i < n) :
    OpSem P T H ⟨d, .indexAddr t x y, ty, ps, af, gd⟩ nm wr (.ptr b (o + i * z)) [] :=
  .quiet fun E a w h => by
    subst hj
    have h2 := (h y mem22 _ hy).i64_inv
    rcases (h x mem21 _ hx).sl_inv with ⟨l, s, c, h1, _, _, _, h3⟩ | ⟨ad, h0, _⟩
    · refine ⟨.pointer (some ⟨l, o + i * z, none⟩), ?_, .ptr _ _ _ _ h1⟩
      have hin : (0 : Int) ≤ (i : Int) ∧ (i : Int) < (n : Int) := by omega
      simp [execOp, h2, h3, Instr.indexAt, asIntOf, run_underlying ht, hin, run_sizeOf_is hz, add_at, hlt]
    · omega
theorem op_indexAddr_arr {j : Int} (ht : P.underlying t = some (.array n e)) (hz : (P.info? e).map (·.size) = some z) (hx : aev T x = some (.ptr b o)) (hy : aev T y = some (.i64 j)) (hj : j = (i : Int)) (hlt : i < n) :
    OpSem P T H ⟨d, .indexAddr t x y, ty, ps, af, gd⟩ nm wr (.ptr b (o + i * z)) [] :=
  .quiet fun E a w h => by
    subst hj
    have h2 := (h y mem22 _ hy).i64_inv
    obtain ⟨l, s, h1, h3⟩ := (h x mem21 _ hx).ptr_inv
    refine ⟨.pointer (some ⟨l, o + i * z, none⟩), ?_, .ptr _ _ _ _ h1⟩
    have hin : (0 : Int) ≤ (i : Int) ∧ (i : Int) < (n : Int) := by omega
    simp [execOp, h2, h3, Instr.indexAt, Instr.sureAddr, asIntOf, run_underlying ht, hin, run_sizeOf_is hz, add_at, hlt]
/-- A bound of a slice expression: none, or a number. -/
def bnd (T : Nat → Option AV) (dflt : Nat) : Option Operand → Nat → Prop
  | none, l => l = dflt
  | some x, l => ∃ j, aev T x = some (.i64 j) ∧ j = (l : Int)
theorem bnd_some {x : Operand} {j : Int} {l dflt : Nat} (h : aev T x = some (.i64 j)) (hj : j = (l : Int)) : bnd T dflt (some x) l := ⟨j, h, hj⟩
theorem run_sliceBounds_ok {lo hi : Option Operand} {l h len cap : Nat} {sl : Bool} {a : Act} {E : Emb} (hb : ∀ q, (lo = some q ∨ hi = some q) → ∀ u, aev T q = some u → Rel E u (a.eval q)) (hl : bnd T 0 lo l) (hh : bnd T len hi h) (h1 : l ≤ h) (h2 : h ≤ cap) (w : World) :
    (Instr.sliceBounds sl len cap (lo.map a.eval) (hi.map a.eval) none).run P w = .ok (l, h, cap) w := by
  cases lo with
  | none =>
    simp only [bnd] at hl; subst hl
    cases hi with
    | none => simp only [bnd] at hh; subst hh; simp [Instr.sliceBounds]
    | some q =>
      obtain ⟨j, hj, rfl⟩ := hh
      have e1 := (hb q (.inr rfl) _ hj).i64_inv
      simp [Instr.sliceBounds, e1, Instr.sliceBound, asIntOf, h2]
  | some p =>
    obtain ⟨j, hj, rfl⟩ := hl
    have e2 := (hb p (.inl rfl) _ hj).i64_inv
    cases hi with
    | none => simp only [bnd] at hh; subst hh; simp [Instr.sliceBounds, e2, Instr.sliceBound, asIntOf, h1]
    | some q =>
      obtain ⟨j, hj, rfl⟩ := hh
      have e1 := (hb q (.inr rfl) _ hj).i64_inv
      simp [Instr.sliceBounds, e1, e2, Instr.sliceBound, asIntOf, h1, h2]
theorem mem_slice {lo hi : Option Operand} : ∀ q, (lo = some q ∨ hi = some q) → q ∈ (Op.slice t x lo hi none).operands := by
  intro q hq
  simp only [Op.operands]
  rcases hq with rfl | rfl <;> simp
theorem op_slice_str {s : List UInt8} {lo hi : Option Operand} {l h : Nat} (ht : P.underlying t = some .string) (hx : aev T x = some (.str s)) (hl : bnd T 0 lo l) (hh : bnd T s.length hi h) (h1 : l ≤ h) (h2 : h ≤ s.length) :
    OpSem P T H ⟨d, .slice t x lo hi none, ty, ps, af, gd⟩ nm wr (.str ((s.drop l).take (h - l))) [] :=
  .quiet fun E a w hop => by
    have h3 := (hop x (by simp [Op.operands]) _ hx).str_inv
    have hb := run_sliceBounds_ok (P := P) (sl := false) (cap := s.length) (fun q hq u hu => hop q (mem_slice q hq) u hu) hl hh h1 h2 w
    have hs : (⟨s.toArray⟩ : ByteArray).size = s.length := by simp [ByteArray.size]
    refine ⟨.string ⟨((s.drop l).take (h - l)).toArray⟩, ?_, .str _⟩
    have he : (⟨s.toArray⟩ : ByteArray).extract l h = ⟨((s.drop l).take (h - l)).toArray⟩ := by
      apply ByteArray.ext
      rw [ByteArray.data_extract]
      simp [List.extract_eq_take_drop]
    simp [execOp, h3, Instr.sliceAt, Instr.slice, run_underlying ht, hs, hb, he]
theorem op_slice_sl {lo hi : Option Operand} {l h : Nat} (ht : P.underlying t = some (.slice e)) (hz : (P.info? e).map (·.size) = some z) (hx : aev T x = some (.sl b o n z)) (hl : bnd T 0 lo l) (hh : bnd T n hi h) (h1 : l ≤ h) (h2 : h ≤ n) :
    OpSem P T H ⟨d, .slice t x lo hi none, ty, ps, af, gd⟩ nm wr (.sl b (o + l * z) (h - l) z) [] :=
  .quiet fun E a w hop => by
    rcases (hop x (by simp [Op.operands]) _ hx).sl_inv with ⟨lc, s, c, g1, g2, g3, g4, g5⟩ | ⟨ad, h0, g5⟩
    · have hb := run_sliceBounds_ok (P := P) (sl := true) (cap := c) (fun q hq u hu => hop q (mem_slice q hq) u hu) hl hh h1 (by omega) w
      by_cases hc : c = l
      · subst hc
        refine ⟨.slice (some ⟨lc, o, none⟩) (h - c) (c - c), ?_, ?_⟩
        · simp [execOp, g5, Instr.sliceAt, Instr.slice, run_underlying ht, hb, run_sizeOf_is hz]
        · rw [show h - c = 0 by omega, show c - c = 0 by omega]; exact .sl0 _ _ _ _
      · refine ⟨.slice (some ⟨lc, o + l * z, none⟩) (h - l) (c - l), ?_, .sl _ _ _ _ lc s _ g1 (by omega) (by omega) ?_⟩
        · simp [execOp, g5, Instr.sliceAt, Instr.slice, run_underlying ht, hb, run_sizeOf_is hz, hc, add_at]
        · have : l * z + (c - l) * z = c * z := by rw [← Nat.add_mul]; congr 1; omega
          omega
    · have hb := run_sliceBounds_ok (P := P) (sl := true) (cap := 0) (fun q hq u hu => hop q (mem_slice q hq) u hu) hl hh h1 (by omega) w
      subst h0
      refine ⟨.slice (some ad) 0 0, ?_, ?_⟩
      · have e1 : l = 0 := by omega
        have e2 : h = 0 := by omega
        subst e1; subst e2
        simp [execOp, g5, Instr.sliceAt, Instr.slice, run_underlying ht, hb, run_sizeOf_is hz]
      · rw [show h - l = 0 by omega]; exact .sl0 _ _ _ _
/-- A slice of a variable that is an array. -/
theorem op_slice_arr {lo hi : Option Operand} {l h : Nat} (ht : P.underlying t = some (.array n e)) (hz : (P.info? e).map (·.size) = some z) (hx : aev T x = some (.ptr b o)) (hk : H b = some k) (hlen : o + n * z ≤ k.c.len) (hnm : n ≤ maxLen) (hl : bnd T 0 lo l) (hh : bnd T n hi h) (h1 : l ≤ h) (h2 : h ≤ n) :
    OpSem P T H ⟨d, .slice t x lo hi none, ty, ps, af, gd⟩ nm wr (.sl b (o + l * z) (h - l) z) [] :=
  .reads fun E S a w hop hR => by
    obtain ⟨lc, s, g1, g5⟩ := (hop x (by simp [Op.operands]) _ hx).ptr_inv
    obtain ⟨l', s', h3, arr, fz, _, q2, _, q4, _⟩ := hR.blk b k hk
    rw [g1] at h3; injection h3 with h3; injection h3 with e1 e2; subst e1; subst e2
    rw [len_list] at q4
    have hb := run_sliceBounds_ok (P := P) (sl := false) (cap := n) (fun q hq u hu => hop q (mem_slice q hq) u hu) hl hh h1 h2 w
    by_cases hc : n = l
    · subst hc
      refine ⟨.slice (some ⟨lc, o, none⟩) (h - n) (n - n), ?_, ?_⟩
      · simp [execOp, g5, Instr.sliceAt, Instr.sureAddr, run_underlying ht, hb, run_sizeOf_is hz]
      · rw [show h - n = 0 by omega, show n - n = 0 by omega]; exact .sl0 _ _ _ _
    · refine ⟨.slice (some ⟨lc, o + l * z, none⟩) (h - l) (n - l), ?_, .sl _ _ _ _ lc s _ g1 (by omega) (by omega) ?_⟩
      · simp [execOp, g5, Instr.sliceAt, Instr.sureAddr, run_underlying ht, hb, run_sizeOf_is hz, hc, add_at]
      · have : l * z + (n - l) * z = n * z := by rw [← Nat.add_mul]; congr 1; omega
        omega
theorem op_nilCheck (hx : aev T x = some (.ptr b o)) : OpSem P T H ⟨d, .nilCheck x, ty, ps, af, gd⟩ nm wr (.ptr b o) [] :=
  .quiet fun E a w h => by
    obtain ⟨l, s, h1, h3⟩ := (h x mem1 _ hx).ptr_inv
    exact ⟨_, by simp [execOp, h3], .ptr _ _ _ _ h1⟩
theorem op_extract {cs : List AV} (hx : aev T x = some (.tup cs)) (hv : cs[i]? = some v) : OpSem P T H ⟨d, .extract x i, ty, ps, af, gd⟩ nm wr v [] :=
  .quiet fun E a w h => by
    obtain ⟨ds, q1, q2, q3⟩ := (h x mem1 _ hx).tup_inv
    have hi : i < ds.size := by rw [← q2]; exact (List.getElem?_eq_some_iff.1 hv).1
    exact ⟨ds[i], by simp [execOp, q1, Instr.extract, hi], q3 i v _ hv (Array.getElem?_eq_getElem hi)⟩
end
end Go.Proofs.YtaenhghihhhikaaDoor
