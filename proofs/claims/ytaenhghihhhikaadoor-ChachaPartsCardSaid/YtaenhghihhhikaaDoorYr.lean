/-
  Rows of numbers that the call itself made: append, one element stored. Nothing of the program is named here.
-/
import Derived.Test.YtaenhghihhhikaaDoorCv
import Derived.Test.YtaenhghihhhikaaDoorAp
import Derived.Laws.OwnMore
import Derived.OwnWalk
namespace Go.Proofs.YtaenhghihhhikaaDoor
open Go.RowKit

/-- The slice v is the call's own and holds f of the list. -/
def Own {α : Type} (w : World) (base : Nat) (t : TypeId) (f : α → Value) (v : Value) (l : List α) : Prop := w.ownsRow base t 1 v l.length (l.map f)
section
variable {α : Type} {w w' : World} {base : Nat} {t : TypeId} {f : α → Value} {v : Value} {l : List α}
theorem Own.nil (w : World) (base : Nat) (t : TypeId) (f : α → Value) : Own w base t f (.slice none 0 0) [] := World.ownsRow_nil _ _ _ _
theorem Own.mono (h : Own w base t f v l) {b : Nat} (hb : b ≤ base) : Own w b t f v l := by
  refine ⟨h.1, ?_⟩
  rcases h.2 with hn | ⟨g, cap, cur, e, hbg, rest⟩
  · exact .inl hn
  · exact .inr ⟨g, cap, cur, e, Nat.le_trans hb hbg, rest⟩
theorem Own.form (h : Own w base t f v l) : (v = .slice none 0 0 ∧ l = []) ∨ ∃ g cap, v = .slice (some ⟨g, 0, none⟩) l.length cap ∧ base ≤ g ∧ g < w.heap.size ∧ l.length ≤ cap ∧ cap ≤ maxLen := by
  rcases h.2 with ⟨rfl, hn⟩ | ⟨g, cap, cur, rfl, hbg, hh, hc, hm, _⟩
  · exact .inl ⟨rfl, List.eq_nil_of_length_eq_zero hn⟩
  · exact .inr ⟨g, cap, rfl, hbg, (Array.getElem?_eq_some_iff.1 hh).1, hc, hm⟩
/-- A slice value: its address may be nil, where it is empty. -/
theorem Own.slice (h : Own w base t f v l) : ∃ A cap, v = .slice A l.length cap := by
  rcases h.form with ⟨rfl, rfl⟩ | ⟨g, cap, rfl, _⟩
  · exact ⟨_, _, rfl⟩
  · exact ⟨_, _, rfl⟩
theorem Own.cell {g cap : Nat} (h : Own w base t f (.slice (some ⟨g, 0, none⟩) l.length cap) l) (z : α) (j : Nat) (hj : j < l.length) : w.cell? ⟨g, j, none⟩ = some (f (l.getD j z)) := by
  have := h.cells (g := g) rfl j (f (l.getD j z)) (by simp [List.getD_eq_getElem?_getD, List.getElem?_eq_getElem hj])
  rwa [addr_add] at this
theorem Own.frozen {g cap : Nat} (h : Own w base t f (.slice (some ⟨g, 0, none⟩) l.length cap) l) (j : Nat) : w.frozen? ⟨g, j, none⟩ = false := World.ownsRow.frozenAt h j
theorem Own.lt {g n cap : Nat} (h : Own w base t f (.slice (some ⟨g, 0, none⟩) n cap) l) : base ≤ g ∧ g < w.heap.size := World.ownsRow.lt h g rfl
theorem Own.lt_ (h : Own w base t f v l) : ∀ k, v.ownBlock = some k → base ≤ k := fun k hk => (World.ownsRow.lt h k hk).1
theorem Own.below_of (h : Own w base t f v l) (hg : w.grownBy w' v.ownBlock) (hb : base ≤ w.heap.size) : Below base w w' := (Below.refl _ _).grown hg hb h.lt_
theorem Own.drew (h : Own w base t f v l) : Own w.drew base t f v l := h
theorem Own.drewN (h : Own w base t f v l) (n : Nat) : Own (w.drewN n) base t f v l := h
theorem Own.alloc (h : Own w base t f v l) (o : Obj) : Own (w.alloc o) base t f v l := World.ownsRow.alloc h o
theorem Own.below {B : Nat} (h : Own w base t f v l) (hb : Below B w w') (hB : w.heap.size ≤ B) : Own w' base t f v l := by
  refine ⟨h.1, ?_⟩
  rcases h.2 with hn | ⟨g, cap, cur, e, hbg, hh, rest⟩
  · exact .inl hn
  · exact .inr ⟨g, cap, cur, e, hbg, (hb.block g (Nat.lt_of_lt_of_le (Array.getElem?_eq_some_iff.1 hh).1 hB)).trans hh, rest⟩
theorem Own.grown {r : Option Nat} (h : Own w base t f v l) (hg : w.grownBy w' r) (hne : v.ownBlock = none ∨ v.ownBlock ≠ r) : Own w' base t f v l := World.ownsRow.kept h hg hne
theorem Own.cast {l' : List α} (h : Own w base t f v l) (e : l = l') : Own w base t f v l' := e ▸ h
/-- One element is stored. -/
theorem Own.set_ {g n cap : Nat} (h : Own w base t f (.slice (some ⟨g, 0, none⟩) n cap) l) (i : Nat) (x : α) : Own (w.setCell ⟨g, i, none⟩ (f x)) base t f (.slice (some ⟨g, 0, none⟩) n cap) (l.set i x) := by
  have hn : n = l.length := by
    rcases h.form with ⟨e, _⟩ | ⟨_, _, e, _⟩
    · cases e
    · injection e
  subst hn
  have := World.ownsRow.stored h i (f x)
  unfold Own
  rw [List.length_set, List.map_set]
  exact this.1
/-- The first k elements of a row are a row. -/
theorem Own.take {g n cap k : Nat} (h : Own w base t f (.slice (some ⟨g, 0, none⟩) n cap) l) (hk : k ≤ l.length) : Own w base t f (.slice (some ⟨g, 0, none⟩) k cap) (l.take k) := by
  rcases h.2 with ⟨e, _⟩ | ⟨g', cap', cur, e, hbg, hh, hc, hm, hs, ht⟩
  · cases e
  · injection e with e1 e2 e3
    injection e1 with e1
    injection e1 with e1
    subst e1; subst e3; subst e2
    refine ⟨by simp, .inr ⟨g, cap, cur, by rw [List.length_take, Nat.min_eq_left hk], hbg, hh, by rw [List.length_take]; omega, hm, hs, ?_⟩⟩
    rw [List.map_take, ← ht, List.take_take, List.length_take]
    congr 1; omega
end
theorem Own.apart {α β : Type} {w : World} {b b' t t' : Nat} {f : α → Value} {f' : β → Value} {v v' : Value} {l : List α} {l' : List β} (h : Own w b t f v l) (h' : Own w b' t' f' v' l') (hne : t ≠ t') : v.ownBlock = none ∨ v.ownBlock ≠ v'.ownBlock := by
  rcases h.2 with ⟨rfl, _⟩ | ⟨g, cap, cur, rfl, _, hh, _⟩
  · exact .inl rfl
  · refine .inr (fun e => ?_)
    rcases h'.2 with ⟨rfl, _⟩ | ⟨g', cap', cur', rfl, _, hh', _⟩
    · simp [Value.ownBlock] at e
    · simp only [Value.ownBlock, Option.some.injEq] at e
      subst e
      rw [hh] at hh'
      injection hh' with hh'
      injection hh' with _ ht
      exact hne ht
theorem Own.bytes {w : World} {base t g n cap : Nat} {l : List UInt8} (h : Own w base t U8 (.slice (some ⟨g, 0, none⟩) n cap) l) : Bytes w g 0 l := fun j hj => by
  have := h.cells (g := g) rfl j (U8 (l[j])) (by simp [hj])
  rw [addr_add] at this
  rw [Nat.zero_add]
  exact this
/-- A new block of one literal's elements. -/
theorem Own.new {α : Type} (w : World) (base : Nat) (t : TypeId) (f : α → Value) (l : List α) (hb : base ≤ w.heap.size) (hm : l.length ≤ maxLen) : Own (w.alloc (.cells (l.map f).toArray t)) base t f (.slice (some ⟨w.heap.size, 0, none⟩) l.length l.length) l :=
  ⟨by simp, .inr ⟨w.heap.size, l.length, (l.map f).toArray, rfl, hb, heap_alloc_new w _, Nat.le_refl _, hm, by simp, by simp [List.take_of_length_le]⟩⟩
section
variable {P : Program} {α : Type}
/-- append(v, the elements that lie at b). -/
theorem step_append_lit {ops : Array Oper} {o : Oper} {a : Act} {w : World} {K : Act → World → Prop} {Q : Exit → Act → World → Prop} {E : Prop} (hgd : o.guard = none) (s x : Operand) (t : TypeId)
    (ho : o.op = .call { callee := .builtin .append, args := #[s, x], argTypes := #[t, t] })
    (base : Nat) (e : TypeId) (i : TypeInfo) (z : Value) (bytes : Nat) (f : α → Value) (hf : ∀ x, (f x).oneCell' = true) (ht : P.underlying t = some (.slice e)) (hi : P.info? e = some i) (hz : i.zero = some z)
    (hsize : i.size = 1) (hby : i.bytes = bytes) (hzs : z.cells.size = 1) (hb16 : bytes ≤ 16)
    (v : Value) (l m : List α) (n : Nat) (hn : m.length = n) (hs : a.eval s = v) (hown : Own w base e f v l)
    (b off c : Nat) (hx : a.eval x = .slice (some ⟨b, off, none⟩) n c) (hnews : ∀ j u, (m.map f)[j]? = some u → w.cell? ⟨b, off + j, none⟩ = some u)
    (hnm : l.length + n ≤ 1000000000000) (hbase : base ≤ w.heap.size)
    (h : ∀ v' w', Own w' base e f v' (l ++ m) → w.grownBy w' v.ownBlock → Below base w w' → K (a.put o.dst v') w') : if Region.wanted o (yielded ops a.tmps) = true then Oper.wp P o a w K Q else E := by
  subst hn
  have hw : Region.wanted o (yielded ops a.tmps) = true := by simp [Region.wanted, hgd]
  rw [if_pos hw]
  refine wp_append_own w s x t ho base e i z 1 bytes ht hi hz hsize hby hzs (by decide) v l.length (l.map f) hs hown ⟨b, off, none⟩ m.length c (m.map f) hx (by simp) (fun j u hu => ?_) (by intro x hx; simp at hx; obtain ⟨y, _, rfl⟩ := hx; exact hf y) (by unfold maxLen; omega) ?_ hbase ?_
  · have e : (⟨b, off, none⟩ : Addr).add j = ⟨b, off + j, none⟩ := by unfold Addr.add; split <;> simp_all
    rw [e]; exact hnews j u hu
  · have := Nat.mul_le_mul hnm hb16; omega
  · intro v' w' hown' hg _
    refine h v' w' (by unfold Own; rw [List.length_append, List.map_append]; exact hown') hg ((Below.refl _ _).grown hg hbase (fun k hk => ?_))
    exact (hown.lt_ k hk)
theorem wpList_append_lit {ops : Array Oper} {rest : List Oper} {o : Oper} {a : Act} {w : World} {Q : Exit → Act → World → Prop} (hgd : o.guard = none) (s x : Operand) (t : TypeId)
    (ho : o.op = .call { callee := .builtin .append, args := #[s, x], argTypes := #[t, t] })
    (base : Nat) (e : TypeId) (i : TypeInfo) (z : Value) (bytes : Nat) (f : α → Value) (hf : ∀ x, (f x).oneCell' = true) (ht : P.underlying t = some (.slice e)) (hi : P.info? e = some i) (hz : i.zero = some z)
    (hsize : i.size = 1) (hby : i.bytes = bytes) (hzs : z.cells.size = 1) (hb16 : bytes ≤ 16)
    (v : Value) (l m : List α) (n : Nat) (hn : m.length = n) (hs : a.eval s = v) (hown : Own w base e f v l)
    (b off c : Nat) (hx : a.eval x = .slice (some ⟨b, off, none⟩) n c) (hnews : ∀ j u, (m.map f)[j]? = some u → w.cell? ⟨b, off + j, none⟩ = some u)
    (hnm : l.length + n ≤ 1000000000000) (hbase : base ≤ w.heap.size)
    (h : ∀ v' w', Own w' base e f v' (l ++ m) → w.grownBy w' v.ownBlock → Below base w w' → wpList P ops Q rest (a.put o.dst v') w') : wpList P ops Q (o :: rest) a w :=
  wpList_plain hgd fun K hK => by
    have hw : Region.wanted o (yielded ops a.tmps) = true := by simp [Region.wanted, hgd]
    have := step_append_lit (P := P) (ops := ops) (w := w) (K := K) (Q := Q) (E := True) hgd s x t ho base e i z bytes f hf ht hi hz hsize hby hzs hb16 v l m n hn hs hown b off c hx hnews hnm hbase (fun v' w' h1 h2 h3 => hK _ _ (h v' w' h1 h2 h3))
    rwa [if_pos hw] at this
theorem new_lit (w : World) (t : TypeId) (cs : Array Value) (xs : List Value) (h : cs = xs.toArray) : ∀ j u, xs[j]? = some u → (w.alloc (.cells cs t)).cell? ⟨w.heap.size, 0 + j, none⟩ = some u := by
  subst h
  intro j u hu
  rw [(Blk.new w t _).cell]; simpa using hu
/-- append(v, news...), v and the news the call's own rows (or nil). -/
theorem run_append_rows (w : World) (base base2 : Nat) (t ty e : TypeId) (i : TypeInfo) (z : Value) (bytes : Nat) (f : α → Value) (hf : ∀ x, (f x).oneCell' = true) (ht : P.underlying t = some (.slice e)) (hi : P.info? e = some i) (hz : i.zero = some z)
    (hsize : i.size = 1) (hby : i.bytes = bytes) (hzs : z.cells.size = 1) (v u : Value) (l m : List α) (hv : Own w base e f v l) (hu : Own w base2 e f u m)
    (h63 : l.length + m.length ≤ 1000000) (hbytes : bytes ≤ 16) (hbase : base ≤ w.heap.size) :
    ∃ v' w', (Builtin.append_ #[t, t] ty #[v, u]).run P w = .ok v' w' ∧ Own w' base e f v' (l ++ m) ∧ w.grownBy w' v.ownBlock := by
  have hb1 : (l.length + m.length) * bytes ≤ 140737488355328 := by
    have := Nat.mul_le_mul h63 hbytes; omega
  rcases hu.form with ⟨rfl, rfl⟩ | ⟨g, cap, rfl, _, _, _, _⟩
  · refine ⟨v, w, ?_, by simpa using hv, grown_refl _ _⟩
    rcases hv.form with ⟨rfl, rfl⟩ | ⟨g, cap, rfl, _, _, hc, _⟩
    · simp [Builtin.append_, run_underlying ht, sizeOf, typeInfo, hi, Builtin.lenOf, Builtin.firstCells]
    · simp [Builtin.append_, run_underlying ht, sizeOf, typeInfo, hi, Builtin.lenOf, Builtin.firstCells, loadCells, hc, storeCells]
  · obtain ⟨v', w', h1, h2, h3, _⟩ := run_append_own (P := P) w base t ty e i z 1 bytes ht hi hz hsize hby hzs (by omega) v l.length (l.map f) hv ⟨g, 0, none⟩ m.length cap (m.map f) (by simp) (hu.cells rfl) (by intro x hx; simp at hx; obtain ⟨y, _, rfl⟩ := hx; exact hf y) (by unfold maxLen; omega) hb1 hbase
    exact ⟨v', w', h1, by unfold Own; rw [List.length_append, List.map_append]; exact h2, h3⟩
end
end Go.Proofs.YtaenhghihhhikaaDoor
