/-
  Texts of this claim.
-/
import Derived.Laws.CopyRow
import Derived.Deep.Draws
import Derived.Deep.WholeRow
import Derived.Test.YtidjfinookikcaaDoorGQA
namespace Go.Proofs.YtidjfinookikcaaDoor
open Go.RowKit

/-- Block g is just the cells cs of element type t, none frozen. -/
def Blk (w : World) (g : Nat) (t : TypeId) (cs : Array Value) : Prop := w.heap[g]? = some (.cells cs t (0, 0))
section
variable {w w' : World} {g : Nat} {t : TypeId} {cs : Array Value}
theorem Blk.lt (h : Blk w g t cs) : g < w.heap.size := by
  rcases Nat.lt_or_ge g w.heap.size with hlt | hge
  · exact hlt
  · unfold Blk at h; rw [Array.getElem?_eq_none hge] at h; cases h
theorem Blk.cell (h : Blk w g t cs) (i : Nat) : w.cell? ⟨g, i, none⟩ = cs[i]? := cell_of_row w g i cs t (0, 0) h
theorem Blk.frozen (h : Blk w g t cs) (i : Nat) : w.frozen? ⟨g, i, none⟩ = false := by
  unfold Blk at h
  simp [World.frozen?, h]
theorem Blk.new (w : World) (t : TypeId) (cs : Array Value) : Blk (w.alloc (.cells cs t)) w.heap.size t cs := heap_alloc_new w _
theorem Blk.drew (h : Blk w g t cs) : Blk w.drew g t cs := h
theorem Blk.drewN (h : Blk w g t cs) (n : Nat) : Blk (w.drewN n) g t cs := h
theorem Blk.alloc (h : Blk w g t cs) (o : Obj) : Blk (w.alloc o) g t cs := (Below.heap_alloc w o g h.lt).trans h
theorem Blk.set_ (h : Blk w g t cs) (i : Nat) (u : Value) : Blk (w.setCell ⟨g, i, none⟩ u) g t (cs.setIfInBounds i u) := by
  unfold Blk at h ⊢
  simp [World.setCell, Array.getElem?_modify, h]
theorem Blk.far (h : Blk w g t cs) {p : Addr} (hp : g ≠ p.block) (u : Value) : Blk (w.setCell p u) g t cs := (Below.heap_setCell w p u g hp).trans h
theorem Blk.below {B : Nat} (h : Blk w g t cs) (hb : Below B w w') (hg : g < B) : Blk w' g t cs := (hb.block g hg).trans h
theorem Blk.grown {row : Option Nat} (h : Blk w g t cs) (hb : w.grownBy w' row) (hg : some g ≠ row) : Blk w' g t cs := (hb.block g h.lt hg).trans h
theorem Blk.row (h : Blk w g t cs) (cs' : Array Value) : Blk (w.setRow g cs') g t cs' := setRow_heap w g cs cs' t (0, 0) h
theorem Blk.farRow (h : Blk w g t cs) {g' : Nat} (hp : g ≠ g') (cs' : Array Value) : Blk (w.setRow g' cs') g t cs := by
  unfold Blk World.setRow at *
  simp only [Array.getElem?_modify]
  rw [if_neg (by omega)]; exact h
theorem Blk.ne_ {g' : Nat} {t' : TypeId} {cs' : Array Value} (h : Blk w g t cs) (h' : Blk w g' t' cs') (hne : t ≠ t') : g ≠ g' := by
  rintro rfl
  unfold Blk at h h'
  rw [h] at h'
  injection h' with h'
  injection h' with _ ht
  exact hne ht
end
theorem grown_refl (w : World) (r : Option Nat) : w.grownBy w r := World.grownBy.refl w r
theorem grown_trans {a b c : World} {r : Option Nat} (h : a.grownBy b r) (k : b.grownBy c r) : a.grownBy c r :=
  ⟨k.os.trans h.os, k.tape.trans h.tape, k.output.trans h.output, Nat.le_trans h.size k.size, fun i hi hr => (k.block i (Nat.lt_of_lt_of_le hi h.size) hr).trans (h.block i hi hr)⟩
theorem grown_drew {a b : World} {r : Option Nat} (h : a.grownBy b r) : a.grownBy b.drew r := ⟨h.os, h.tape, h.output, h.size, h.block⟩
theorem grown_drewN {a b : World} {r : Option Nat} (h : a.grownBy b r) (n : Nat) : a.grownBy (b.drewN n) r := ⟨h.os, h.tape, h.output, h.size, h.block⟩
theorem grown_setCell {a b : World} {g : Nat} (h : a.grownBy b (some g)) (i : Nat) (u : Value) : a.grownBy (b.setCell ⟨g, i, none⟩ u) (some g) :=
  grown_trans h ⟨rfl, rfl, rfl, by simp [World.setCell], fun k _ hr => Below.heap_setCell _ _ _ _ (fun e => hr (by simp [e]))⟩
theorem grown_setRow {a b : World} {g : Nat} (h : a.grownBy b (some g)) (cs : Array Value) : a.grownBy (b.setRow g cs) (some g) :=
  grown_trans h ⟨rfl, rfl, rfl, by simp [World.setRow], fun k _ hr => by
    unfold World.setRow
    simp only [Array.getElem?_modify]
    rw [if_neg (fun e => hr (by simp [e]))]⟩
theorem grown_alloc {a b : World} {r : Option Nat} (h : a.grownBy b r) (o : Obj) : a.grownBy (b.alloc o) r := grown_trans h (World.grownBy_alloc b o r)
theorem below_drewN {B : Nat} {a w : World} (h : Below B a w) (n : Nat) : Below B a (w.drewN n) := ⟨h.os, h.tape, h.output, h.size, h.block⟩
theorem addr_add (b j : Nat) : (⟨b, 0, none⟩ : Addr).add j = ⟨b, j, none⟩ := by unfold Addr.add; split <;> simp_all

/-- The bytes bs lie at block b from o on. -/
def Bytes (w : World) (b o : Nat) (bs : List UInt8) : Prop := ∀ j (h : j < bs.length), w.cell? ⟨b, o + j, none⟩ = some (U8 bs[j])
theorem Bytes.of_cells {w w' : World} {b o : Nat} {bs : List UInt8} (h : Bytes w b o bs) (hc : ∀ j, w'.cell? ⟨b, j, none⟩ = w.cell? ⟨b, j, none⟩) : Bytes w' b o bs :=
  fun j hj => (hc _).trans (h j hj)
theorem Bytes.below {w w' : World} {b o B : Nat} {bs : List UInt8} (h : Bytes w b o bs) (hb : Below B w w') (hB : b < B) : Bytes w' b o bs :=
  h.of_cells fun _ => hb.cell hB
theorem Bytes.sub {w : World} {b o : Nat} {bs : List UInt8} (h : Bytes w b o bs) (k n : Nat) : Bytes w b (o + k) ((bs.drop k).take n) := fun j hj => by
  have h1 : k + j < bs.length := by simp at hj; omega
  rw [Nat.add_assoc, h (k + j) h1]
  simp
def be32 (bs : List UInt8) : UInt32 := bs.foldl (fun x b => (x <<< UInt32.ofNat 8) ||| b.toUInt32) 0
def be64 (bs : List UInt8) : UInt64 := bs.foldl (fun x b => (x <<< UInt64.ofNat 8) ||| b.toUInt64) 0
theorem foldl_take_succ {α β : Type} (f : β → α → β) (z : β) (l : List α) (k : Nat) (h : k < l.length) : (l.take (k + 1)).foldl f z = f ((l.take k).foldl f z) l[k] := by
  rw [List.take_succ_eq_append_getElem h, List.foldl_append]; rfl
theorem be32_succ (l : List UInt8) (k : Nat) (h : k < l.length) : be32 (l.take (k + 1)) = (be32 (l.take k) <<< 8 ||| l[k].toUInt32) := by
  rw [be32, foldl_take_succ _ _ _ _ h]; rfl
theorem be64_succ (l : List UInt8) (k : Nat) (h : k < l.length) : be64 (l.take (k + 1)) = (be64 (l.take k) <<< 8 ||| l[k].toUInt64) := by
  rw [be64, foldl_take_succ _ _ _ _ h]; rfl
theorem be32_nil : be32 [] = 0 := rfl
theorem blk_cast {w : World} {g : Nat} {t : TypeId} {cs cs' : Array Value} (h : Blk w g t cs) (e : cs = cs') : Blk w g t cs' := e ▸ h
/-- A row of n cells that holds l, and z behind it. -/
def rowOf {α : Type} (f : α → Value) (z : α) (n : Nat) (l : List α) : Array Value := Array.ofFn fun j : Fin n => f (l.getD j.val z)
theorem size_rowOf {α : Type} (f : α → Value) (z : α) (n : Nat) (l : List α) : (rowOf f z n l).size = n := by simp [rowOf]
theorem get_rowOf {α : Type} (f : α → Value) (z : α) (n : Nat) (l : List α) (i : Nat) (h : i < n) : (rowOf f z n l)[i]? = some (f (l.getD i z)) := by
  simp [rowOf, h]
theorem push_rowOf {α : Type} (f : α → Value) (z : α) (n : Nat) (l : List α) (i : Nat) (v : α) (hi : i = l.length) : (rowOf f z n l).setIfInBounds i (f v) = rowOf f z n (l ++ [v]) := by
  subst hi
  apply Array.ext_getElem?
  intro j
  rw [Array.getElem?_setIfInBounds, size_rowOf]
  by_cases hj : j < n
  · rw [get_rowOf _ _ _ _ _ hj, get_rowOf _ _ _ _ _ hj]
    by_cases h : l.length = j
    · subst h; simp [hj]
    · rw [if_neg h]
      rcases Nat.lt_or_ge j l.length with h1 | h1
      · simp [List.getD_eq_getElem?_getD, List.getElem?_append_left h1]
      · simp [List.getD_eq_getElem?_getD, h1, show l.length + 1 ≤ j by omega]
  · have e : ∀ l' : List α, (rowOf f z n l')[j]? = none := fun l' => Array.getElem?_eq_none (by rw [size_rowOf]; omega)
    rw [e, e]
    split
    · rw [if_neg (by omega)]
    · rfl
/-- The first n words of the bytes. -/
def words32 (bs : List UInt8) (n : Nat) : List UInt32 := (List.range n).map fun t => be32 ((bs.drop (4 * t)).take 4)
def words64 (bs : List UInt8) (n : Nat) : List UInt64 := (List.range n).map fun t => be64 ((bs.drop (8 * t)).take 8)
theorem words32_succ (bs : List UInt8) (n : Nat) : words32 bs (n + 1) = words32 bs n ++ [be32 ((bs.drop (4 * n)).take 4)] := by simp [words32, List.range_succ]
theorem words64_succ (bs : List UInt8) (n : Nat) : words64 bs (n + 1) = words64 bs n ++ [be64 ((bs.drop (8 * n)).take 8)] := by simp [words64, List.range_succ]
theorem length_words32 (bs : List UInt8) (n : Nat) : (words32 bs n).length = n := by simp [words32]
theorem length_words64 (bs : List UInt8) (n : Nat) : (words64 bs n).length = n := by simp [words64]
theorem hid {p : Prop} (h : p) : Hid p := h
section
variable {P : Program}
/-- A whole array into a block that is known whole: of the world behind it only what matters is said. -/
theorem wpList_store_blk {ops : Array Oper} {rest : List Oper} {o : Oper} {a : Act} {w : World} {Q : Exit → Act → World → Prop} (hgd : o.guard = none) (ty : TypeId) (x y : Operand) (ho : o.op = .store ty x y)
    (g : Nat) (cells : Array Value) (hx : a.eval x = .pointer (some ⟨g, 0, none⟩)) (hy : a.eval y = .agg cells)
    (t : TypeId) (old : Array Value) (hg : Blk w g t old) (hi : (P.info? ty).map (·.size) = some cells.size)
    (hold : old.size = cells.size) (h1 : cells.all (·.oneCell') = true)
    (h : ∀ w', Blk w' g t cells → w.grownBy w' (some g) → wpList P ops Q rest (a.put o.dst undef) w') : wpList P ops Q (o :: rest) a w :=
  wpList_store_row hgd ty x y ho g cells hx hy t old hg hi hold h1 (h _ (hg.row cells) (grown_setRow (grown_refl w _) cells))
theorem wpList_load_blk {ops : Array Oper} {rest : List Oper} {o : Oper} {a : Act} {w : World} {Q : Exit → Act → World → Prop} (hgd : o.guard = none) (ty : TypeId) (x : Operand) (ho : o.op = .load ty x)
    (g : Nat) (hx : a.eval x = .pointer (some ⟨g, 0, none⟩)) (t : TypeId) (cs : Array Value) (d : TypeDesc) (hg : Blk w g t cs)
    (hu : P.underlying ty = some d) (hd : (match d with | .struct _ | .array _ _ => true | _ => false) = true) (hi : (P.info? ty).map (·.size) = some cs.size)
    (h : wpList P ops Q rest (a.put o.dst (.agg cs)) w) : wpList P ops Q (o :: rest) a w :=
  wpList_load_row hgd ty x ho g hx t cs (0, 0) d hg hu hd hi h
end
theorem below_grown {B g : Nat} {a w w' : World} (h : Below B a w) (hg : w.grownBy w' (some g)) (hB : B ≤ w.heap.size) (hr : B ≤ g) : Below B a w' :=
  h.grown hg hB (fun k hk => by injection hk with hk; omega)
theorem Blk.gro {w w' : World} {g g' : Nat} {t : TypeId} {cs : Array Value} (h : Blk w g t cs) (hb : w.grownBy w' (some g')) (hg : g ≠ g') : Blk w' g t cs :=
  h.grown hb (fun e => hg (by injection e))
/-- A row of n cells: below i it is g's, from i on f's. -/
def mixF (f g : Nat → Value) (n i : Nat) : Array Value := Array.ofFn fun j : Fin n => if j.val < i then g j.val else f j.val
theorem size_mixF (f g : Nat → Value) (n i : Nat) : (mixF f g n i).size = n := by simp [mixF]
theorem get_mixF (f g : Nat → Value) (n i j : Nat) (h : j < n) : (mixF f g n i)[j]? = some (if j < i then g j else f j) := by simp [mixF, h]
theorem set_mixF (f g : Nat → Value) (n i : Nat) : (mixF f g n i).setIfInBounds i (g i) = mixF f g n (i + 1) := by
  apply Array.ext_getElem?
  intro j
  rw [Array.getElem?_setIfInBounds, size_mixF]
  by_cases hj : j < n
  · rw [get_mixF _ _ _ _ _ hj, get_mixF _ _ _ _ _ hj]
    by_cases h : i = j
    · subst h; simp [hj]
    · rw [if_neg h]
      by_cases h2 : j < i
      · rw [if_pos h2, if_pos (by omega)]
      · rw [if_neg h2, if_neg (by omega)]
  · have e : ∀ i', (mixF f g n i')[j]? = none := fun i' => Array.getElem?_eq_none (by rw [size_mixF]; omega)
    rw [e, e]
    split
    · rw [if_neg (by omega)]
    · rfl
end Go.Proofs.YtidjfinookikcaaDoor
