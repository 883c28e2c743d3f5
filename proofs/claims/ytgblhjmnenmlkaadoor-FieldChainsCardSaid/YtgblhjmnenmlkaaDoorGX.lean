/-
  The stream cipher of the program and of the reference, walked.
-/
import Derived.Laws.CopyRow
import Derived.Deep.Draws
import Derived.Deep.WholeRow
import Derived.Laws.IdiomStrings
import Derived.Laws.Slices
import Derived.Test.YtgblhjmnenmlkaaDoorProg
import Derived.WalkSpells
import Derived.WalkLawsBesides
import Derived.Deep.QuietTactic
import Derived.BigQuiet
import Derived.Lib.Hide
import Derived.BigRegion
import Derived.Deep.MidRow
import Derived.StillTailTactics
import Derived.Deep.Cut
import Derived.Laws.OwnMore
import Derived.OwnWalk
import Derived.Deep.RegionLaw
import Derived.Deep.RegionHeld3
import Derived.Deep.RegionWith
import Derived.Lib.AppendZeros
import Derived.Laws.BytesArg
import Derived.Test.YtgblhjmnenmlkaaDoorGA
import Derived.Test.YtgblhjmnenmlkaaDoorGE
namespace Go.Proofs.YtgblhjmnenmlkaaDoor
open Go.RowKit

/-- Block g is just the cells cs of element type t, none frozen. -/
def Blk (w : World) (g : Nat) (t : TypeId) (cs : Array Value) : Prop := w.heap[g]? = some (.cells cs t (0, 0))
section
variable {w w' : World} {g : Nat} {t : TypeId} {cs : Array Value}
theorem Blk.lt (h : Blk w g t cs) : g < w.heap.size := by
  rcases Nat.lt_or_ge g w.heap.size with hlt | hge
  · exact hlt
  · unfold Blk at h; rw [Array.getElem?_eq_none hge] at h; cases h
theorem Blk.cell (h : Blk w g t cs) (i : Nat) : w.cell? ⟨g, i, none⟩ = cs[i]? := cell_of_row w g i cs t (0, 0) h
theorem Blk.frozen (h : Blk w g t cs) (i : Nat) : w.frozen? ⟨g, i, none⟩ = false := by
  unfold Blk at h
  simp [World.frozen?, h]
theorem Blk.new (w : World) (t : TypeId) (cs : Array Value) : Blk (w.alloc (.cells cs t)) w.heap.size t cs := heap_alloc_new w _
theorem Blk.drew (h : Blk w g t cs) : Blk w.drew g t cs := h
theorem Blk.drewN (h : Blk w g t cs) (n : Nat) : Blk (w.drewN n) g t cs := h
theorem Blk.alloc (h : Blk w g t cs) (o : Obj) : Blk (w.alloc o) g t cs := (Below.heap_alloc w o g h.lt).trans h
theorem Blk.set_ (h : Blk w g t cs) (i : Nat) (u : Value) : Blk (w.setCell ⟨g, i, none⟩ u) g t (cs.setIfInBounds i u) := by
  unfold Blk at h ⊢
  simp [World.setCell, Array.getElem?_modify, h]
theorem Blk.far (h : Blk w g t cs) {p : Addr} (hp : g ≠ p.block) (u : Value) : Blk (w.setCell p u) g t cs := (Below.heap_setCell w p u g hp).trans h
theorem Blk.below {B : Nat} (h : Blk w g t cs) (hb : Below B w w') (hg : g < B) : Blk w' g t cs := (hb.block g hg).trans h
theorem Blk.grown {row : Option Nat} (h : Blk w g t cs) (hb : w.grownBy w' row) (hg : some g ≠ row) : Blk w' g t cs := (hb.block g h.lt hg).trans h
theorem Blk.row (h : Blk w g t cs) (cs' : Array Value) : Blk (w.setRow g cs') g t cs' := setRow_heap w g cs cs' t (0, 0) h
theorem Blk.farRow (h : Blk w g t cs) {g' : Nat} (hp : g ≠ g') (cs' : Array Value) : Blk (w.setRow g' cs') g t cs := by
  unfold Blk World.setRow at *
  simp only [Array.getElem?_modify]
  rw [if_neg (by omega)]; exact h
theorem Blk.ne_ {g' : Nat} {t' : TypeId} {cs' : Array Value} (h : Blk w g t cs) (h' : Blk w g' t' cs') (hne : t ≠ t') : g ≠ g' := by
  rintro rfl
  unfold Blk at h h'
  rw [h] at h'
  injection h' with h'
  injection h' with _ ht
  exact hne ht
end
theorem grown_refl (w : World) (r : Option Nat) : w.grownBy w r := World.grownBy.refl w r
theorem grown_trans {a b c : World} {r : Option Nat} (h : a.grownBy b r) (k : b.grownBy c r) : a.grownBy c r :=
  ⟨k.os.trans h.os, k.tape.trans h.tape, k.output.trans h.output, Nat.le_trans h.size k.size, fun i hi hr => (k.block i (Nat.lt_of_lt_of_le hi h.size) hr).trans (h.block i hi hr)⟩
theorem grown_drew {a b : World} {r : Option Nat} (h : a.grownBy b r) : a.grownBy b.drew r := ⟨h.os, h.tape, h.output, h.size, h.block⟩
theorem grown_drewN {a b : World} {r : Option Nat} (h : a.grownBy b r) (n : Nat) : a.grownBy (b.drewN n) r := ⟨h.os, h.tape, h.output, h.size, h.block⟩
theorem grown_setCell {a b : World} {g : Nat} (h : a.grownBy b (some g)) (i : Nat) (u : Value) : a.grownBy (b.setCell ⟨g, i, none⟩ u) (some g) :=
  grown_trans h ⟨rfl, rfl, rfl, by simp [World.setCell], fun k _ hr => Below.heap_setCell _ _ _ _ (fun e => hr (by simp [e]))⟩
theorem grown_setRow {a b : World} {g : Nat} (h : a.grownBy b (some g)) (cs : Array Value) : a.grownBy (b.setRow g cs) (some g) :=
  grown_trans h ⟨rfl, rfl, rfl, by simp [World.setRow], fun k _ hr => by
    unfold World.setRow
    simp only [Array.getElem?_modify]
    rw [if_neg (fun e => hr (by simp [e]))]⟩
theorem grown_alloc {a b : World} {r : Option Nat} (h : a.grownBy b r) (o : Obj) : a.grownBy (b.alloc o) r := grown_trans h (World.grownBy_alloc b o r)
theorem below_drewN {B : Nat} {a w : World} (h : Below B a w) (n : Nat) : Below B a (w.drewN n) := ⟨h.os, h.tape, h.output, h.size, h.block⟩
theorem addr_add (b j : Nat) : (⟨b, 0, none⟩ : Addr).add j = ⟨b, j, none⟩ := by unfold Addr.add; split <;> simp_all

/-- The bytes bs lie at block b from o on. -/
def Bytes (w : World) (b o : Nat) (bs : List UInt8) : Prop := ∀ j (h : j < bs.length), w.cell? ⟨b, o + j, none⟩ = some (U8 bs[j])
theorem Bytes.of_cells {w w' : World} {b o : Nat} {bs : List UInt8} (h : Bytes w b o bs) (hc : ∀ j, w'.cell? ⟨b, j, none⟩ = w.cell? ⟨b, j, none⟩) : Bytes w' b o bs :=
  fun j hj => (hc _).trans (h j hj)
theorem Bytes.below {w w' : World} {b o B : Nat} {bs : List UInt8} (h : Bytes w b o bs) (hb : Below B w w') (hB : b < B) : Bytes w' b o bs :=
  h.of_cells fun _ => hb.cell hB
theorem Bytes.sub {w : World} {b o : Nat} {bs : List UInt8} (h : Bytes w b o bs) (k n : Nat) : Bytes w b (o + k) ((bs.drop k).take n) := fun j hj => by
  have h1 : k + j < bs.length := by simp at hj; omega
  rw [Nat.add_assoc, h (k + j) h1]
  simp
def be32 (bs : List UInt8) : UInt32 := bs.foldl (fun x b => (x <<< UInt32.ofNat 8) ||| b.toUInt32) 0
def be64 (bs : List UInt8) : UInt64 := bs.foldl (fun x b => (x <<< UInt64.ofNat 8) ||| b.toUInt64) 0
theorem foldl_take_succ {α β : Type} (f : β → α → β) (z : β) (l : List α) (k : Nat) (h : k < l.length) : (l.take (k + 1)).foldl f z = f ((l.take k).foldl f z) l[k] := by
  rw [List.take_succ_eq_append_getElem h, List.foldl_append]; rfl
theorem be32_succ (l : List UInt8) (k : Nat) (h : k < l.length) : be32 (l.take (k + 1)) = (be32 (l.take k) <<< 8 ||| l[k].toUInt32) := by
  rw [be32, foldl_take_succ _ _ _ _ h]; rfl
theorem be64_succ (l : List UInt8) (k : Nat) (h : k < l.length) : be64 (l.take (k + 1)) = (be64 (l.take k) <<< 8 ||| l[k].toUInt64) := by
  rw [be64, foldl_take_succ _ _ _ _ h]; rfl
theorem be32_nil : be32 [] = 0 := rfl
theorem blk_cast {w : World} {g : Nat} {t : TypeId} {cs cs' : Array Value} (h : Blk w g t cs) (e : cs = cs') : Blk w g t cs' := e ▸ h
/-- A row of n cells that holds l, and z behind it. -/
def rowOf {α : Type} (f : α → Value) (z : α) (n : Nat) (l : List α) : Array Value := Array.ofFn fun j : Fin n => f (l.getD j.val z)
theorem size_rowOf {α : Type} (f : α → Value) (z : α) (n : Nat) (l : List α) : (rowOf f z n l).size = n := by simp [rowOf]
theorem get_rowOf {α : Type} (f : α → Value) (z : α) (n : Nat) (l : List α) (i : Nat) (h : i < n) : (rowOf f z n l)[i]? = some (f (l.getD i z)) := by
  simp [rowOf, h]
theorem push_rowOf {α : Type} (f : α → Value) (z : α) (n : Nat) (l : List α) (i : Nat) (v : α) (hi : i = l.length) : (rowOf f z n l).setIfInBounds i (f v) = rowOf f z n (l ++ [v]) := by
  subst hi
  apply Array.ext_getElem?
  intro j
  rw [Array.getElem?_setIfInBounds, size_rowOf]
  by_cases hj : j < n
  · rw [get_rowOf _ _ _ _ _ hj, get_rowOf _ _ _ _ _ hj]
    by_cases h : l.length = j
    · subst h; simp [hj]
    · rw [if_neg h]
      rcases Nat.lt_or_ge j l.length with h1 | h1
      · simp [List.getD_eq_getElem?_getD, List.getElem?_append_left h1]
      · simp [List.getD_eq_getElem?_getD, h1, show l.length + 1 ≤ j by omega]
  · have e : ∀ l' : List α, (rowOf f z n l')[j]? = none := fun l' => Array.getElem?_eq_none (by rw [size_rowOf]; omega)
    rw [e, e]
    split
    · rw [if_neg (by omega)]
    · rfl
/-- The first n words of the bytes. -/
def words32 (bs : List UInt8) (n : Nat) : List UInt32 := (List.range n).map fun t => be32 ((bs.drop (4 * t)).take 4)
def words64 (bs : List UInt8) (n : Nat) : List UInt64 := (List.range n).map fun t => be64 ((bs.drop (8 * t)).take 8)
theorem words32_succ (bs : List UInt8) (n : Nat) : words32 bs (n + 1) = words32 bs n ++ [be32 ((bs.drop (4 * n)).take 4)] := by simp [words32, List.range_succ]
theorem words64_succ (bs : List UInt8) (n : Nat) : words64 bs (n + 1) = words64 bs n ++ [be64 ((bs.drop (8 * n)).take 8)] := by simp [words64, List.range_succ]
theorem length_words32 (bs : List UInt8) (n : Nat) : (words32 bs n).length = n := by simp [words32]
theorem length_words64 (bs : List UInt8) (n : Nat) : (words64 bs n).length = n := by simp [words64]
theorem hid {p : Prop} (h : p) : Hid p := h
section
variable {P : Program}
/-- A whole array into a block that is known whole: of the world behind it only what matters is said. -/
theorem wpList_store_blk {ops : Array Oper} {rest : List Oper} {o : Oper} {a : Act} {w : World} {Q : Exit → Act → World → Prop} (hgd : o.guard = none) (ty : TypeId) (x y : Operand) (ho : o.op = .store ty x y)
    (g : Nat) (cells : Array Value) (hx : a.eval x = .pointer (some ⟨g, 0, none⟩)) (hy : a.eval y = .agg cells)
    (t : TypeId) (old : Array Value) (hg : Blk w g t old) (hi : (P.info? ty).map (·.size) = some cells.size)
    (hold : old.size = cells.size) (h1 : cells.all (·.oneCell') = true)
    (h : ∀ w', Blk w' g t cells → w.grownBy w' (some g) → wpList P ops Q rest (a.put o.dst undef) w') : wpList P ops Q (o :: rest) a w :=
  wpList_store_row hgd ty x y ho g cells hx hy t old hg hi hold h1 (h _ (hg.row cells) (grown_setRow (grown_refl w _) cells))
theorem wpList_load_blk {ops : Array Oper} {rest : List Oper} {o : Oper} {a : Act} {w : World} {Q : Exit → Act → World → Prop} (hgd : o.guard = none) (ty : TypeId) (x : Operand) (ho : o.op = .load ty x)
    (g : Nat) (hx : a.eval x = .pointer (some ⟨g, 0, none⟩)) (t : TypeId) (cs : Array Value) (d : TypeDesc) (hg : Blk w g t cs)
    (hu : P.underlying ty = some d) (hd : (match d with | .struct _ | .array _ _ => true | _ => false) = true) (hi : (P.info? ty).map (·.size) = some cs.size)
    (h : wpList P ops Q rest (a.put o.dst (.agg cs)) w) : wpList P ops Q (o :: rest) a w :=
  wpList_load_row hgd ty x ho g hx t cs (0, 0) d hg hu hd hi h
end
theorem below_grown {B g : Nat} {a w w' : World} (h : Below B a w) (hg : w.grownBy w' (some g)) (hB : B ≤ w.heap.size) (hr : B ≤ g) : Below B a w' :=
  h.grown hg hB (fun k hk => by injection hk with hk; omega)
theorem Blk.gro {w w' : World} {g g' : Nat} {t : TypeId} {cs : Array Value} (h : Blk w g t cs) (hb : w.grownBy w' (some g')) (hg : g ≠ g') : Blk w' g t cs :=
  h.grown hb (fun e => hg (by injection e))
/-- A row of n cells: below i it is g's, from i on f's. -/
def mixF (f g : Nat → Value) (n i : Nat) : Array Value := Array.ofFn fun j : Fin n => if j.val < i then g j.val else f j.val
theorem size_mixF (f g : Nat → Value) (n i : Nat) : (mixF f g n i).size = n := by simp [mixF]
theorem get_mixF (f g : Nat → Value) (n i j : Nat) (h : j < n) : (mixF f g n i)[j]? = some (if j < i then g j else f j) := by simp [mixF, h]
theorem set_mixF (f g : Nat → Value) (n i : Nat) : (mixF f g n i).setIfInBounds i (g i) = mixF f g n (i + 1) := by
  apply Array.ext_getElem?
  intro j
  rw [Array.getElem?_setIfInBounds, size_mixF]
  by_cases hj : j < n
  · rw [get_mixF _ _ _ _ _ hj, get_mixF _ _ _ _ _ hj]
    by_cases h : i = j
    · subst h; simp [hj]
    · rw [if_neg h]
      by_cases h2 : j < i
      · rw [if_pos h2, if_pos (by omega)]
      · rw [if_neg h2, if_neg (by omega)]
  · have e : ∀ i', (mixF f g n i')[j]? = none := fun i' => Array.getElem?_eq_none (by rw [size_mixF]; omega)
    rw [e, e]
    split
    · rw [if_neg (by omega)]
    · rfl
end Go.Proofs.YtgblhjmnenmlkaaDoor
namespace Go.Proofs.YtgblhjmnenmlkaaDoor
open Go.RowKit

section
variable {P : Program}
theorem wpList_convert_run (w : World) {ops : Array Oper} {rest : List Oper} {o : Oper} {a : Act} {Q : Exit → Act → World → Prop} (hgd : o.guard = none) (s d : TypeId) (x : Operand)
    (ho : o.op = .convert s d x) (vx : Value) (hx : a.eval x = vx)
    (v' : Value) (w' : World) (hr : (convert s d vx).run P w = .ok v' w') (h : wpList P ops Q rest (a.put o.dst v') w') : wpList P ops Q (o :: rest) a w := by
  refine wpList_plain hgd fun K hK => ?_
  unfold Oper.wp execOp
  simp only [ho, hx, Sem.run_bind, Sem.run_pure, Result.andThen_ok, hr]
  exact hK _ _ h
theorem cells_of_bytes {w : World} {b o : Nat} {bs : List UInt8} (h : Bytes w b o bs) : ∀ j (hj : j < bs.length), w.cell? ((⟨b, o, none⟩ : Addr).add j) = some (.int .u8 (bs[j].toNat : Int)) := by
  intro j hj
  have e : (⟨b, o, none⟩ : Addr).add j = ⟨b, o + j, none⟩ := by unfold Addr.add; split <;> simp_all
  rw [e]; exact h j hj
/-- string(b), b's cells being bs. -/
theorem wpList_string_of (w : World) {ops : Array Oper} {rest : List Oper} {o : Oper} {a : Act} {Q : Exit → Act → World → Prop} (hgd : o.guard = none) (s d e : TypeId) (x : Operand)
    (ho : o.op = .convert s d x) (hs : P.underlying s = some (.slice e)) (he : P.underlying e = some (.int .u8)) (hd : P.underlying d = some .string)
    (b off n c : Nat) (bs : List UInt8) (hx : a.eval x = .slice (some ⟨b, off, none⟩) n c) (hn : bs.length = n) (hb : Bytes w b off bs)
    (h : wpList P ops Q rest (a.put o.dst (.string ⟨bs.toArray⟩)) w) : wpList P ops Q (o :: rest) a w := by
  subst hn
  exact wpList_convert_run w hgd s d x ho _ hx _ _ (run_convert_bytes_back w s d e _ c bs hs he hd (cells_of_bytes hb)) h
theorem blk_of_own {w : World} {base e g n : Nat} {xs : List Value} (h : w.ownsRow base e 1 (.slice (some ⟨g, 0, none⟩) n n) n xs) : Blk w g e xs.toArray := by
  obtain ⟨hl, h | ⟨g', cap, cur, hv, _, hh, _, _, hsz, htk⟩⟩ := h
  · cases h.1
  · injection hv with h1 h2 h3
    injection h1 with h1
    injection h1 with h1
    subst h1; subst h3
    unfold Blk
    rw [hh, ← htk, List.take_of_length_le (by simp; omega)]
theorem madeCells_one (v : Value) (n : Nat) : (madeCells #[v] n).toList = List.replicate n v := by
  apply List.ext_getElem?
  intro i
  simp only [madeCells, Array.toList_map, Array.toList_range, List.getElem?_map, List.getElem?_replicate]
  by_cases h : i < n <;> simp [h, Nat.mod_one]
/-- make([]T, n), T of one cell. -/
theorem wpList_make_blk (w : World) {ops : Array Oper} {rest : List Oper} {o : Oper} {a : Act} {Q : Exit → Act → World → Prop}
    (hg : o.guard = none) (l c : Operand) (t : TypeId) (hop : o.op = Op.makeSlice t l c)
    (e : TypeId) (i : TypeInfo) (z : Value) (hz : z.cells = #[z]) (h1 : P.underlying t = some (.slice e)) (h2 : P.info? e = some i) (h3 : i.zero = some z) (h4 : i.size = 1)
    (kl kc : IntKind) (L C : Int) (n : Nat) (hl : a.eval l = .int kl L) (hc : a.eval c = .int kc C) (hL : L = (n : Int)) (hC : C = (n : Int)) (b2 : i.bytes * n ≤ 281474976710656) (b3 : n ≤ maxLen)
    (hK : ∀ w', Blk w' w.heap.size e (Array.replicate n z) → Below w.heap.size w w' → w.heap.size < w'.heap.size → wpList P ops Q rest (a.put o.dst (.slice (some ⟨w.heap.size, 0, none⟩) n n)) w') :
    wpList P ops Q (o :: rest) a w :=
  wpList_make_full w hg l c t hop w.heap.size e i z 1 h1 h2 h3 h4 kl kc L C n hl hc hL hC b2 b3 (Nat.le_refl _) fun w' hown hgr => by
    have hb := blk_of_own hown
    rw [hz, Nat.mul_one, madeCells_one] at hb
    have hb' : Blk w' w.heap.size e (Array.replicate n z) := blk_cast hb (by simp)
    exact hK w' hb' ((Below.refl _ _).grown hgr (Nat.le_refl _) (fun k hk => by cases hk)) hb'.lt
end
theorem bytes_of_blk {w : World} {g t : Nat} {bs : List UInt8} {cs : Array Value} (h : Blk w g t cs) (o n : Nat) (hc : ∀ j, j < n → cs[o + j]? = some (U8 (bs.getD j 0))) (hn : bs.length = n) : Bytes w g o bs := by
  intro j hj
  rw [h.cell, hc j (by omega)]
  simp [List.getD_eq_getElem?_getD, hj]
end Go.Proofs.YtgblhjmnenmlkaaDoor
namespace Go.Proofs.YtgblhjmnenmlkaaDoor
/-- The hexadecimal digit of a number below 16. -/
def hexDigit (d : UInt8) : UInt8 := if d < 10 then 48 + d else 87 + d
def hexL (l : List UInt8) : List UInt8 := l.flatMap fun b => [hexDigit (b / 16), hexDigit (b % 16)]
def hexAt (l : List UInt8) (j : Nat) : UInt8 := if j % 2 = 0 then hexDigit (l.getD (j / 2) 0 / 16) else hexDigit (l.getD (j / 2) 0 % 16)
theorem length_hexL (l : List UInt8) : (hexL l).length = 2 * l.length := by
  induction l with
  | nil => rfl
  | cons a l ih => simp only [hexL, List.flatMap_cons, List.length_append, List.length_cons, List.length_nil] at ih ⊢; omega
theorem hexL_get (l : List UInt8) : ∀ j, j < 2 * l.length → (hexL l)[j]? = some (hexAt l j) := by
  induction l with
  | nil => intro j h; simp at h
  | cons a l ih =>
    intro j h
    match j, h with
    | 0, _ => rfl
    | 1, _ => rfl
    | j + 2, h =>
      have := ih j (by simp at h; omega)
      show (hexL l)[j]? = _
      rw [this]
      unfold hexAt
      rw [show (j + 2) % 2 = j % 2 by omega, show (j + 2) / 2 = j / 2 + 1 by omega]
      rfl
theorem hexL_succ (l : List UInt8) (k : Nat) (h : k < l.length) : hexL (l.take (k + 1)) = hexL (l.take k) ++ [hexDigit (l[k] / 16), hexDigit (l[k] % 16)] := by
  unfold hexL; rw [List.take_succ_eq_append_getElem h, List.flatMap_append]; rfl
theorem hexL_cells (l : List UInt8) (n : Nat) (h : n = 2 * l.length) : mixF (fun _ => U8 0) (fun j => U8 (hexAt l j)) n n = ((hexL l).map U8).toArray := by
  subst h
  apply Array.ext_getElem?
  intro j
  by_cases hj : j < 2 * l.length
  · rw [get_mixF _ _ _ _ _ hj, if_pos hj]; simp [hexL_get l j hj]
  · rw [Array.getElem?_eq_none (by rw [size_mixF]; omega), Array.getElem?_eq_none (by simp [length_hexL]; omega)]
theorem hex_idx (d : Nat) (h : d < (ByteArray.mk #[48, 49, 50, 51, 52, 53, 54, 55, 56, 57, 97, 98, 99, 100, 101, 102]).size) : (ByteArray.mk #[48, 49, 50, 51, 52, 53, 54, 55, 56, 57, 97, 98, 99, 100, 101, 102])[d] = hexDigit (UInt8.ofNat d) := by
  have e : ∀ d : Fin 16, (ByteArray.mk #[48, 49, 50, 51, 52, 53, 54, 55, 56, 57, 97, 98, 99, 100, 101, 102])[d.val]'d.isLt = hexDigit (UInt8.ofNat d.val) := by decide
  exact e ⟨d, h⟩
theorem ofNat_div16 (b : UInt8) : UInt8.ofNat (b.toNat / 16) = b / 16 := by
  apply UInt8.toNat_inj.1; rw [UInt8.toNat_div]; simp [UInt8.toNat_ofNat']; have := b.toNat_lt; omega
theorem ofNat_mod16 (b : UInt8) : UInt8.ofNat (b.toNat % 16) = b % 16 := by
  apply UInt8.toNat_inj.1; rw [UInt8.toNat_mod]; simp [UInt8.toNat_ofNat']; have := b.toNat_lt; omega
def abc256 : List UInt8 := [98, 97, 55, 56, 49, 54, 98, 102, 56, 102, 48, 49, 99, 102, 101, 97, 52, 49, 52, 49, 52, 48, 100, 101, 53, 100, 97, 101, 50, 50, 50, 51, 98, 48, 48, 51, 54, 49, 97, 51, 57, 54, 49, 55, 55, 97, 57, 99, 98, 52, 49, 48, 102, 102, 54, 49, 102, 50, 48, 48, 49, 53, 97, 100]
def abc512 : List UInt8 := [100, 100, 97, 102, 51, 53, 97, 49, 57, 51, 54, 49, 55, 97, 98, 97, 99, 99, 52, 49, 55, 51, 52, 57, 97, 101, 50, 48, 52, 49, 51, 49, 49, 50, 101, 54, 102, 97, 52, 101, 56, 57, 97, 57, 55, 101, 97, 50, 48, 97, 57, 101, 101, 101, 101, 54, 52, 98, 53, 53, 100, 51, 57, 97, 50, 49, 57, 50, 57, 57, 50, 97, 50, 55, 52, 102, 99, 49, 97, 56, 51, 54, 98, 97, 51, 99, 50, 51, 97, 51, 102, 101, 101, 98, 98, 100, 52, 53, 52, 100, 52, 52, 50, 51, 54, 52, 51, 99, 101, 56, 48, 101, 50, 97, 57, 97, 99, 57, 52, 102, 97, 53, 52, 99, 97, 52, 57, 102]
end Go.Proofs.YtgblhjmnenmlkaaDoor
namespace Go.Proofs.YtgblhjmnenmlkaaDoor
open Go.RowKit
theorem alloc_cell (w : World) (cs : Array Value) (t : TypeId) (fz : Nat × Nat) (j : Nat) : (w.alloc (.cells cs t fz)).cell? ⟨w.heap.size, j, none⟩ = cs[j]? :=
  cell_of_row _ _ j cs t fz (heap_alloc_new w _)
theorem alloc_frozen (w : World) (cs : Array Value) (t : TypeId) (a b : Nat) (j : Nat) (h : j < a) : (w.alloc (.cells cs t (a, b))).frozen? ⟨w.heap.size, j, none⟩ = false := by
  have e := heap_alloc_new w (.cells cs t (a, b))
  have q : (w.alloc (.cells cs t (a, b))).heap[(⟨w.heap.size, j, none⟩ : Addr).block]? = some (.cells cs t (a, b)) := e
  unfold World.frozen?
  rw [q]
  simp; omega
theorem bytes_alloc {P : Program} (w : World) (src dst e : TypeId) (s : ByteArray) (hs : P.underlying src = some .string) (hd : P.underlying dst = some (.slice e)) (he : P.underlying e = some (.int .u8)) :
    ∃ (cap : Nat) (W : World), (convert src dst (.string s)).run P w = .ok (.slice (some ⟨w.heap.size, 0, none⟩) s.size cap) W ∧ Bytes W w.heap.size 0 s.data.toList ∧
      (∀ j, j < s.size → W.frozen? ⟨w.heap.size, j, none⟩ = false) ∧ Below w.heap.size w W ∧ w.heap.size < W.heap.size ∧ s.size ≤ cap := by
  have hlen : ∀ cap, (bytesRow s cap).size = s.size + (cap - s.size) := fun cap => by simp [bytesRow]
  refine ⟨_, _, run_bytes_of_string w src dst e s hs hd he, ?_, ?_, ?_, ?_, grownCap_ge _ _ _ _⟩
  · intro j hj
    have hj' : j < s.size := hj
    rw [Nat.zero_add]
    have h := alloc_cell w.drew (bytesRow s (grownCap w s.size 0 e)) e ((bytesRow s (grownCap w s.size 0 e)).size, (bytesRow s (grownCap w s.size 0 e)).size + 1) j
    refine h.trans ?_
    have hjd : j < s.data.size := hj'
    simp only [bytesRow, Array.getElem?_append, Array.size_map]
    rw [if_pos hjd]
    rw [Array.getElem?_map, Array.getElem?_eq_getElem hjd]
    rfl
  · intro j hj
    exact alloc_frozen w.drew _ e _ _ j (by rw [hlen]; omega)
  · exact ((Below.refl _ _).drew).alloc (by simp) _
  · simp
theorem and7 (x : Int) : ∃ e : Nat, e < 8 ∧ bits .and .i64 x 7 = (e : Int) := by
  refine ⟨((BitVec.ofInt 64 x) &&& (BitVec.ofInt 64 7)).toNat, ?_, ?_⟩
  · rw [BitVec.toNat_and]
    exact Nat.lt_succ_of_le (Nat.and_le_right)
  · show IntKind.i64.wrap ↑((BitVec.ofInt 64 x) &&& (BitVec.ofInt 64 7)).toNat = _
    have h : ((BitVec.ofInt 64 x) &&& (BitVec.ofInt 64 7)).toNat ≤ 7 := by
      rw [BitVec.toNat_and]; exact Nat.and_le_right
    generalize ((BitVec.ofInt 64 x) &&& (BitVec.ofInt 64 7)).toNat = k at h
    simp [IntKind.wrap, IntKind.bits, IntKind.signed]
    omega
theorem idx_any (x : Int) (n : Nat) (hn : 0 < n) : ∃ (r : Int) (i : Nat), x.tmod n = r ∧ -(n : Int) < r ∧ r < n ∧ (r + n).tmod n = (i : Int) ∧ i < n := by
  have h1 : x.tmod n < n := Int.tmod_lt_of_pos _ (by omega)
  have h2 : -(n : Int) < x.tmod n := Int.lt_tmod_of_pos _ (by omega)
  have h3 : (x.tmod n + n).tmod n = (x.tmod n + n) % n := Int.tmod_eq_emod_of_nonneg (by omega)
  have h4 : 0 ≤ (x.tmod n + n) % (n : Int) := Int.emod_nonneg _ (by omega)
  have h5 : (x.tmod n + n) % (n : Int) < n := Int.emod_lt_of_pos _ (by omega)
  exact ⟨_, ((x.tmod n + n) % (n : Int)).toNat, rfl, h2, h1, by rw [h3]; omega, by omega⟩
theorem shl1 (e : Nat) (h : e < 8) : ∃ m : UInt8, (2 : Int) ^ e % 256 = n8 m ∧ m ≠ 0 := by
  refine ⟨1 <<< UInt8.ofNat e, ?_, ?_⟩
  · have h2 := shl_n8 1 e h
    rwa [show n8 1 = 1 from rfl, Int.one_mul] at h2
  · revert e; decide
theorem xor_ne (x m : UInt8) (h : m ≠ 0) : x ^^^ m ≠ x := by
  intro e
  apply h
  have : x ^^^ (x ^^^ m) = x ^^^ x := by rw [e]
  rwa [← UInt8.xor_assoc, UInt8.xor_self, UInt8.zero_xor] at this
theorem bytes_set {w : World} {g : Nat} {l : List UInt8} (h : Bytes w g 0 l) (i : Nat) (hi : i < l.length) (v : UInt8) : Bytes (w.setCell ⟨g, i, none⟩ (U8 v)) g 0 (l.set i v) := by
  intro j hj
  have hj' : j < l.length := by simpa using hj
  have hc := h j hj'
  have hci := h i hi
  rw [Nat.zero_add] at hc hci ⊢
  by_cases e : i = j
  · subst e
    rw [World.cell?_setCell_same _ _ _ hci]
    simp
  · rw [World.cell?_setCell_other _ _ _ _ (fun h => e (by injection h)), hc]
    simp [e]
theorem set_ne (l : List UInt8) (i : Nat) (h : i < l.length) (v : UInt8) (hv : v ≠ l[i]) : l.set i v ≠ l := by
  intro e
  apply hv
  have : (l.set i v)[i]'(by simpa using h) = l[i] := by simp only [e]
  simpa using this

/-- The bytes L lie at the head of block g and may be written. -/
def RBytes (w : World) (g : Nat) (L : List UInt8) : Prop := Bytes w g 0 L ∧ (∀ j, j < L.length → w.frozen? ⟨g, j, none⟩ = false) ∧ g < w.heap.size
theorem RBytes.below {w w' : World} {g : Nat} {L : List UInt8} (h : RBytes w g L) {B : Nat} (hb : Below B w w') (hg : g < B) (hB : B ≤ w.heap.size) : RBytes w' g L :=
  ⟨h.1.below hb hg, fun j hj => (hb.frozen (p := ⟨g, j, none⟩) hg).trans (h.2.1 j hj), Nat.lt_of_lt_of_le (Nat.lt_of_lt_of_le hg hB) hb.size⟩
theorem RBytes.drew {w : World} {g : Nat} {L : List UInt8} (h : RBytes w g L) : RBytes w.drew g L := h
theorem RBytes.grown {w w' : World} {g : Nat} {r : Option Nat} {L : List UInt8} (h : RBytes w g L) (hg : w.grownBy w' r) (hr : some g ≠ r) : RBytes w' g L := by
  have hb := hg.block g h.2.2 hr
  refine ⟨fun j hj => (World.cell?_of_block (a := ⟨g, 0 + j, none⟩) hb).trans (h.1 j hj), fun j hj => ?_, Nat.lt_of_lt_of_le h.2.2 hg.size⟩
  have := h.2.1 j hj
  unfold World.frozen? at this ⊢
  rw [show w'.heap[(⟨g, j, none⟩ : Addr).block]? = w.heap[(⟨g, j, none⟩ : Addr).block]? from hb]
  exact this
theorem RBytes.alloc {w : World} {g : Nat} {L : List UInt8} (h : RBytes w g L) (o : Obj) : RBytes (w.alloc o) g L := h.grown (r := none) (World.grownBy_alloc w o none) (by simp)
theorem RBytes.set_ {w : World} {g : Nat} {L : List UInt8} (h : RBytes w g L) (i : Nat) (hi : i < L.length) (v : UInt8) : RBytes (w.setCell ⟨g, i, none⟩ (U8 v)) g (L.set i v) :=
  ⟨bytes_set h.1 i hi v, fun j hj => by rw [World.frozen?_setCell]; exact h.2.1 j (by simpa using hj), by simpa [World.setCell] using h.2.2⟩
theorem RBytes.cell {w : World} {g : Nat} {L : List UInt8} (h : RBytes w g L) (i : Nat) (hi : i < L.length) : w.cell? ⟨g, i, none⟩ = some (U8 (L.getD i 0)) := by
  have := h.1 i hi
  rw [Nat.zero_add] at this
  rw [this, List.getD_eq_getElem?_getD, List.getElem?_eq_getElem hi]; rfl
/-- x[l:h] of a slice whose elements are of one cell each. -/
theorem slice_sl {P : Program} (t e : Nat) (hu : P.underlying t = some (.slice e)) (hs : (P.info? e).map (·.size) = some 1) (b o n c : Nat) (kl kh : IntKind) (L H : Int) (l h : Nat) (hL : L = l) (hH : H = h) (h1 : l ≤ h) (h2 : h ≤ c) (h3 : l < c) (w : World) :
    (Instr.slice t (.slice (some ⟨b, o, none⟩) n c) (some (.int kl L)) (some (.int kh H)) none).run P w = .ok (.slice (some ⟨b, o + l, none⟩) (h - l) (c - l)) w := by
  subst hL hH
  have he : P.elem t = e := by simp [Program.elem, hu]
  have hs' : (sizeOf e).run P w = .ok 1 w := by
    cases hq : P.info? e with
    | none => simp [hq] at hs
    | some i => simp [hq] at hs; simp [sizeOf, typeInfo, hq, hs]
  have hadd : ∀ j, (⟨b, o, none⟩ : Addr).add j = ⟨b, o + j, none⟩ := fun j => by unfold Addr.add; split <;> simp_all
  rw [run_slice_lh w t _ n c (by rw [he]; exact hu) kl kh l h (by omega) (by omega) (by omega), he, hs']
  simp only [Result.andThen_ok, sliced, Int.toNat_natCast, Nat.mul_one]
  rw [if_neg (by omega)]
  simp [hadd]
end Go.Proofs.YtgblhjmnenmlkaaDoor
namespace Go.Proofs.YtgblhjmnenmlkaaDoor
open Go.RowKit
section
variable {P : Program}
theorem own_shape {w : World} {base e n : Nat} {v : Value} {xs : List Value} (h : w.ownsRow base e 1 v n xs) (hn : 0 < n) : ∃ g cap, v = .slice (some ⟨g, 0, none⟩) n cap ∧ base ≤ g := by
  obtain ⟨_, ⟨_, h0⟩ | ⟨g, cap, cur, hv, hb, _⟩⟩ := h
  · omega
  · exact ⟨g, cap, hv, hb⟩
theorem own_base {w : World} {base e g n cap : Nat} {xs : List Value} (h : w.ownsRow base e 1 (.slice (some ⟨g, 0, none⟩) n cap) n xs) : base ≤ g := by
  obtain ⟨_, ⟨h0, _⟩ | ⟨g', cap', cur, hv, hb, _⟩⟩ := h
  · cases h0
  · injection hv with h1; injection h1 with h1; injection h1 with h1; subst h1; exact hb
/-- append of the elements that lie at b. -/
theorem step_append {ops : Array Oper} {rest : List Oper} {o : Oper} {a : Act} {w : World} {Q : Exit → Act → World → Prop} (hgd : o.guard = none) (s x : Operand) (t : TypeId)
    (ho : o.op = .call { callee := .builtin .append, args := #[s, x], argTypes := #[t, t] })
    (base : Nat) (e : TypeId) (i : TypeInfo) (z : Value) (bytes : Nat) (ht : P.underlying t = some (.slice e)) (hi : P.info? e = some i) (hz : i.zero = some z)
    (hsize : i.size = 1) (hby : i.bytes = bytes) (hzs : z.cells.size = 1) (hb16 : bytes ≤ 16)
    (v : Value) (n : Nat) (xs : List Value) (hs : a.eval s = v) (hown : w.ownsRow base e 1 v n xs)
    (b off m c : Nat) (news : List Value) (hx : a.eval x = .slice (some ⟨b, off, none⟩) m c) (hl : news.length = m) (hnews : ∀ j u, news[j]? = some u → w.cell? ⟨b, off + j, none⟩ = some u) (h1 : ∀ u ∈ news, u.oneCell' = true)
    (hm : 0 < n + m) (hnm : n + m ≤ 1000000000000) (hbase : base ≤ w.heap.size)
    (h : ∀ g cap w', w'.ownsRow base e 1 (.slice (some ⟨g, 0, none⟩) (n + m) cap) (n + m) (xs ++ news) → w.grownBy w' v.ownBlock → Below base w w' → wpList P ops Q rest (a.put o.dst (.slice (some ⟨g, 0, none⟩) (n + m) cap)) w') : wpList P ops Q (o :: rest) a w := by
  refine wpList_append_own w hgd s x t ho base e i z 1 bytes ht hi hz hsize hby hzs (by decide) v n xs hs hown ⟨b, off, none⟩ m c news hx (by simpa using hl) (fun j u hu => ?_) h1 (by unfold maxLen; omega) ?_ hbase ?_
  · have e : (⟨b, off, none⟩ : Addr).add j = ⟨b, off + j, none⟩ := by unfold Addr.add; split <;> simp_all
    rw [e]; exact hnews j u hu
  · have := Nat.mul_le_mul hnm hb16; omega
  · intro v' w' hown' hg _
    obtain ⟨g, cap, rfl, _⟩ := own_shape hown' (by omega)
    refine h g cap w' hown' hg ((Below.refl _ _).grown hg hbase (fun k hk => ?_))
    exact (hown.lt k hk).1
/-- The same as one step of a region that draws its order. -/
theorem step_append_if {ops : Array Oper} {o : Oper} {a : Act} {w : World} {K : Act → World → Prop} {Q : Exit → Act → World → Prop} {E : Prop} (hgd : o.guard = none) (s x : Operand) (t : TypeId)
    (ho : o.op = .call { callee := .builtin .append, args := #[s, x], argTypes := #[t, t] })
    (base : Nat) (e : TypeId) (i : TypeInfo) (z : Value) (bytes : Nat) (ht : P.underlying t = some (.slice e)) (hi : P.info? e = some i) (hz : i.zero = some z)
    (hsize : i.size = 1) (hby : i.bytes = bytes) (hzs : z.cells.size = 1) (hb16 : bytes ≤ 16)
    (v : Value) (n : Nat) (xs : List Value) (hs : a.eval s = v) (hown : w.ownsRow base e 1 v n xs)
    (b off m c : Nat) (news : List Value) (hx : a.eval x = .slice (some ⟨b, off, none⟩) m c) (hl : news.length = m) (hnews : ∀ j u, news[j]? = some u → w.cell? ⟨b, off + j, none⟩ = some u) (h1 : ∀ u ∈ news, u.oneCell' = true)
    (hm : 0 < n + m) (hnm : n + m ≤ 1000000000000) (hbase : base ≤ w.heap.size)
    (h : ∀ g cap w', w'.ownsRow base e 1 (.slice (some ⟨g, 0, none⟩) (n + m) cap) (n + m) (xs ++ news) → w.grownBy w' v.ownBlock → Below base w w' → K (a.put o.dst (.slice (some ⟨g, 0, none⟩) (n + m) cap)) w') : if Region.wanted o (yielded ops a.tmps) = true then Oper.wp P o a w K Q else E := by
  have hw : Region.wanted o (yielded ops a.tmps) = true := by simp [Region.wanted, hgd]
  rw [if_pos hw]
  refine wp_append_own w s x t ho base e i z 1 bytes ht hi hz hsize hby hzs (by decide) v n xs hs hown ⟨b, off, none⟩ m c news hx (by simpa using hl) (fun j u hu => ?_) h1 (by unfold maxLen; omega) ?_ hbase ?_
  · have e : (⟨b, off, none⟩ : Addr).add j = ⟨b, off + j, none⟩ := by unfold Addr.add; split <;> simp_all
    rw [e]; exact hnews j u hu
  · have := Nat.mul_le_mul hnm hb16; omega
  · intro v' w' hown' hg _
    obtain ⟨g, cap, rfl, _⟩ := own_shape hown' (by omega)
    refine h g cap w' hown' hg ((Below.refl _ _).grown hg hbase (fun k hk => ?_))
    exact (hown.lt k hk).1
end
theorem own_cell {w : World} {base e g n cap : Nat} {xs : List Value} (h : w.ownsRow base e 1 (.slice (some ⟨g, 0, none⟩) n cap) n xs) (j : Nat) (hj : j < n) : w.cell? ⟨g, j, none⟩ = xs[j]? := h.cellAt j (by omega)
theorem own_lit (w : World) (e : TypeId) (z : Array Value) (n : Nat) (hz : z.size = n) (hn : n ≤ maxLen) (base : Nat) (hb : base ≤ w.heap.size) : (w.alloc (.cells z e)).ownsRow base e 1 (.slice (some ⟨w.heap.size, 0, none⟩) n n) n z.toList :=
  ⟨by simp [hz], .inr ⟨w.heap.size, n, z, rfl, hb, heap_alloc_new w _, Nat.le_refl _, hn, by omega, by rw [List.take_of_length_le]; simp [hz]⟩⟩
theorem own_below {w w' : World} {base e g n cap B : Nat} {xs : List Value} (h : w.ownsRow base e 1 (.slice (some ⟨g, 0, none⟩) n cap) n xs) (hb : Below B w w') (hg : g < B) : w'.ownsRow base e 1 (.slice (some ⟨g, 0, none⟩) n cap) n xs := by
  obtain ⟨h0, ⟨h1, _⟩ | ⟨g', cap', cur, hv, hb', hh, r⟩⟩ := h
  · cases h1
  · have hgg : g = g' := by injection hv with h1; injection h1 with h1; injection h1 with h1
    subst hgg
    exact ⟨h0, .inr ⟨g, cap', cur, hv, hb', (hb.block g hg).trans hh, r⟩⟩
theorem own_kept {w w' : World} {base e g n cap g0 : Nat} {xs : List Value} (h : w.ownsRow base e 1 (.slice (some ⟨g, 0, none⟩) n cap) n xs) (hg : w.grownBy w' (some g0)) (hne : g ≠ g0) : w'.ownsRow base e 1 (.slice (some ⟨g, 0, none⟩) n cap) n xs :=
  h.kept hg (Or.inr (by simp [Value.ownBlock, hne]))
theorem new_one (w : World) (t : TypeId) (x : Value) : ∀ j u, ([x] : List Value)[j]? = some u → (w.alloc (.cells #[x] t)).cell? ⟨w.heap.size, 0 + j, none⟩ = some u := by
  intro j u hu
  match j, hu with
  | 0, hu => rw [(Blk.new w t #[x]).cell]; simpa using hu
  | j + 1, hu => simp at hu
theorem own_lt {w : World} {base e g n cap : Nat} {xs : List Value} (h : w.ownsRow base e 1 (.slice (some ⟨g, 0, none⟩) n cap) n xs) : g < w.heap.size := (h.lt g rfl).2
theorem own_drewN {w : World} {base e n : Nat} {v : Value} {xs : List Value} (h : w.ownsRow base e 1 v n xs) (m : Nat) : (w.drewN m).ownsRow base e 1 v n xs := h
end Go.Proofs.YtgblhjmnenmlkaaDoor
namespace Go.Proofs.YtgblhjmnenmlkaaDoor

def rotl32 (x : UInt32) (n : Nat) : UInt32 := (x <<< UInt32.ofNat n) ||| (x >>> UInt32.ofNat (32 - n))
structure Q4 where
  (a b c d : UInt32)
def qmix (q : Q4) : Q4 :=
  let a1 := q.a + q.b
  let d1 := rotl32 (q.d ^^^ a1) 16
  let c1 := q.c + d1
  let b1 := rotl32 (q.b ^^^ c1) 12
  let a2 := a1 + b1
  let d2 := rotl32 (d1 ^^^ a2) 8
  let c2 := c1 + d2
  let b2 := rotl32 (b1 ^^^ c2) 7
  ⟨a2, b2, c2, d2⟩
def quarter (l : List UInt32) (a b c d : Nat) : List UInt32 :=
  let q := qmix ⟨l.getD a 0, l.getD b 0, l.getD c 0, l.getD d 0⟩
  (((l.set a q.a).set b q.b).set c q.c).set d q.d
theorem length_quarter (l : List UInt32) (a b c d : Nat) : (quarter l a b c d).length = l.length := by simp [quarter]
def quartersL : List (List Nat) := [[0, 4, 8, 12], [1, 5, 9, 13], [2, 6, 10, 14], [3, 7, 11, 15], [0, 5, 10, 15], [1, 6, 11, 12], [2, 7, 8, 13], [3, 4, 9, 14]]
def qAt (i j : Nat) : Nat := (quartersL.getD i []).getD j 0
def qrow (l : List UInt32) (i : Nat) : List UInt32 := quarter l (qAt i 0) (qAt i 1) (qAt i 2) (qAt i 3)
def dbl (l : List UInt32) : Nat → List UInt32
  | 0 => l
  | i + 1 => qrow (dbl l i) i
def rnds (l : List UInt32) : Nat → List UInt32
  | 0 => l
  | n + 1 => dbl (rnds l n) 8
theorem length_dbl (l : List UInt32) (i : Nat) : (dbl l i).length = l.length := by
  induction i with
  | zero => rfl
  | succ i ih => rw [dbl, qrow, length_quarter, ih]
theorem length_rnds (l : List UInt32) (i : Nat) : (rnds l i).length = l.length := by
  induction i with
  | zero => rfl
  | succ i ih => rw [rnds, length_dbl, ih]
/-- The little-endian number of the first k bytes. -/
def le32 (bs : List UInt8) : Nat → UInt32
  | 0 => 0
  | k + 1 => le32 bs k ||| ((bs.getD k 0).toUInt32 <<< UInt32.ofNat (8 * k))
def leWords (bs : List UInt8) (n : Nat) : List UInt32 := (List.range n).map fun t => le32 ((bs.drop (4 * t)).take 4) 4
theorem leWords_succ (bs : List UInt8) (n : Nat) : leWords bs (n + 1) = leWords bs n ++ [le32 ((bs.drop (4 * n)).take 4) 4] := by simp [leWords, List.range_succ]
theorem length_leWords (bs : List UInt8) (n : Nat) : (leWords bs n).length = n := by simp [leWords]
def sigma : List UInt32 := [1634760805, 857760878, 2036477234, 1797285236]
def cInit (key : List UInt8) (ctr : UInt32) (nonce : List UInt8) : List UInt32 := sigma ++ leWords key 8 ++ [ctr] ++ leWords nonce 3
theorem length_cInit (key : List UInt8) (ctr : UInt32) (nonce : List UInt8) : (cInit key ctr nonce).length = 16 := by
  simp [cInit, sigma, length_leWords]
/-- Byte k of a word, counted from the low end. -/
def byteL (x : UInt32) (k : Nat) : UInt8 := (x >>> UInt32.ofNat (8 * k)).toUInt8
def wordBytes (x : UInt32) : List UInt8 := [byteL x 0, byteL x 1, byteL x 2, byteL x 3]
def cSums (l : List UInt32) : List UInt32 := List.zipWith (· + ·) (rnds l 10) l
def outBytes (l : List UInt32) : List UInt8 := l.flatMap wordBytes
/-- The block of the key stream. -/
def cBlock (key : List UInt8) (ctr : UInt32) (nonce : List UInt8) : List UInt8 := outBytes (cSums (cInit key ctr nonce))
theorem length_outBytes (l : List UInt32) : (outBytes l).length = 4 * l.length := by
  induction l with
  | nil => rfl
  | cons a l ih => simp only [outBytes, List.flatMap_cons, List.length_append, List.length_cons] at ih ⊢; rw [ih]; simp [wordBytes]; omega
theorem length_cSums (l : List UInt32) : (cSums l).length = l.length := by simp [cSums, length_rnds]
theorem length_cBlock (key : List UInt8) (ctr : UInt32) (nonce : List UInt8) : (cBlock key ctr nonce).length = 64 := by
  rw [cBlock, length_outBytes, length_cSums, length_cInit]
theorem outBytes_succ (l : List UInt32) (k : Nat) (h : k < l.length) : outBytes (l.take (k + 1)) = outBytes (l.take k) ++ wordBytes l[k] := by
  unfold outBytes; rw [List.take_succ_eq_append_getElem h, List.flatMap_append]; simp
/-- The bytes with the key stream. -/
def cXor (key : List UInt8) (ctr : UInt32) (nonce s : List UInt8) : List UInt8 := s.mapIdx fun i b => b ^^^ (cBlock key (ctr + UInt32.ofNat (i / 64)) nonce).getD (i % 64) 0
theorem length_cXor (key : List UInt8) (ctr : UInt32) (nonce s : List UInt8) : (cXor key ctr nonce s).length = s.length := by simp [cXor]
theorem get_cXor (key : List UInt8) (ctr : UInt32) (nonce s : List UInt8) (i : Nat) (h : i < s.length) : (cXor key ctr nonce s)[i]? = some (s[i] ^^^ (cBlock key (ctr + UInt32.ofNat (i / 64)) nonce).getD (i % 64) 0) := by
  simp [cXor, h]
theorem cXor_twice (key : List UInt8) (ctr : UInt32) (nonce s : List UInt8) : cXor key ctr nonce (cXor key ctr nonce s) = s := by
  apply List.ext_getElem?
  intro i
  by_cases h : i < s.length
  · have h2 : i < (cXor key ctr nonce s).length := by rw [length_cXor]; exact h
    rw [get_cXor _ _ _ _ i h2]
    have e := get_cXor key ctr nonce s i h
    rw [List.getElem?_eq_getElem h2] at e
    rw [Option.some.inj e, UInt8.xor_assoc, UInt8.xor_self, UInt8.xor_zero, List.getElem?_eq_getElem h]
  · rw [List.getElem?_eq_none (by rw [length_cXor, length_cXor]; omega), List.getElem?_eq_none (by omega)]
theorem cXor_parts (key nonce s : List UInt8) (k : Nat) (h : 64 * k ≤ s.length) : cXor key 0 nonce (s.take (64 * k)) ++ cXor key (UInt32.ofNat k) nonce (s.drop (64 * k)) = cXor key 0 nonce s := by
  apply List.ext_getElem?
  intro i
  by_cases hi : i < s.length
  · rw [get_cXor _ _ _ _ i hi]
    by_cases h2 : i < 64 * k
    · rw [List.getElem?_append_left (by rw [length_cXor]; simp; omega), get_cXor _ _ _ _ i (by simp; omega)]
      simp
    · rw [List.getElem?_append_right (by rw [length_cXor]; simp; omega), length_cXor, List.length_take, show i - min (64 * k) s.length = i - 64 * k by omega,
        get_cXor _ _ _ _ (i - 64 * k) (by simp; omega)]
      have e1 : (s.drop (64 * k))[i - 64 * k]'(by simp; omega) = s[i] := by
        rw [List.getElem_drop]; congr 1; omega
      rw [e1, show (i - 64 * k) % 64 = i % 64 by omega]
      have e2 : UInt32.ofNat k + UInt32.ofNat ((i - 64 * k) / 64) = 0 + UInt32.ofNat (i / 64) := by
        rw [← UInt32.ofNat_add, UInt32.zero_add]; congr 1; omega
      rw [e2]
  · rw [List.getElem?_eq_none (by simp [length_cXor]; omega), List.getElem?_eq_none (by rw [length_cXor]; omega)]
end Go.Proofs.YtgblhjmnenmlkaaDoor
namespace Go.Proofs.YtgblhjmnenmlkaaDoor
open Go.RowKit

attribute [local go_sem] and_n32 or_n32 xor_n32 add_n32 add_n32' wrap_n32

theorem and_31 (n : Nat) (h1 : 1 ≤ n) (h2 : n < 32) : bits BinOp.and IntKind.u64 (n : Int) 31 = (n : Int) := by
  have e : ∀ m : Fin 32, m.val ≠ 0 → bits BinOp.and IntKind.u64 (m.val : Int) 31 = (m.val : Int) := by decide +kernel
  exact e ⟨n, h2⟩ (by simpa using Nat.one_le_iff_ne_zero.1 h1)
set_option maxHeartbeats 400000 in
theorem rotl32_any (u : UInt32) (n : Nat) (w : World) (h1 : 1 ≤ n) (h2 : n < 32) :
    Calls Tryd.prog 129 #[U32 u, .int .i64 (n : Int)] w fun e w' => e = .returned (U32 (rotl32 u n)) ∧ w = w' := by
  have hA := and_31 n h1 h2
  have hW : IntKind.u64.wrap (n : Int) = (n : Int) := by rw [wrap_u64]; omega
  have hB : min n 32 = n := by omega
  have hD : IntKind.u64.wrap (32 - (n : Int)) = ((32 - n : Nat) : Int) := by rw [wrap_u64]; omega
  have hE : min (32 - n) 32 = 32 - n := by omega
  have hF := shl_n32 u n h2
  have hG := shr_n32 u (32 - n) (by omega)
  go_enter Tryd.func129, Tryd.ntmps129
  go_wp2
  go_ret
  exact ⟨rfl, rfl⟩
theorem rotl32_int (u : UInt32) (n : Int) (w : World) (h1 : 1 ≤ n) (h2 : n < 32) :
    Calls Tryd.prog 129 #[U32 u, .int .i64 n] w fun e w' => e = .returned (U32 (rotl32 u n.toNat)) ∧ w = w' := by
  obtain ⟨m, rfl⟩ := Int.eq_ofNat_of_zero_le (show 0 ≤ n by omega)
  exact rotl32_any u m w (by omega) (by omega)
set_option maxHeartbeats 400000 in
theorem mix_any (x y z : UInt32) (n : Int) (w : World) (h1 : 1 ≤ n) (h2 : n < 32) :
    Calls Tryd.prog 122 #[U32 x, U32 y, U32 z, .int .i64 n] w fun e w' => e = .returned (.tuple #[U32 (x + y), U32 (rotl32 (z ^^^ (x + y)) n.toNat)]) ∧ w = w' := by
  go_enter Tryd.func122, Tryd.ntmps122
  go_wp2_with (go_at_call 129; refine (rotl32_int _ _ _ h1 h2).mono ?_; rintro e w' ⟨rfl, rfl⟩)
  go_ret2
  exact ⟨rfl, rfl⟩

theorem byteL_eq (x : UInt32) (k : Nat) (h : k < 4) : IntKind.u8.wrap (n32 x / 2 ^ (8 * k)) = n8 (byteL x k) := by
  rw [shr_n32 x (8 * k) (by omega), n8_of_n32]; rfl
def putL (cs : Array Value) (o : Nat) (x : UInt32) : Nat → Array Value
  | 0 => cs
  | k + 1 => (putL cs o x k).setIfInBounds (o + k) (U8 (byteL x k))
theorem size_putL (cs : Array Value) (o : Nat) (x : UInt32) (k : Nat) : (putL cs o x k).size = cs.size := by
  induction k with
  | zero => rfl
  | succ k ih => simp [putL, ih]
set_option maxHeartbeats 400000 in
theorem putWordC_any (b o n c : Nat) (t : TypeId) (cs : Array Value) (x : UInt32) (w : World) (hb : Blk w b t cs) (hn : n ≤ 4) (hs : o + n ≤ cs.size) :
    Calls Tryd.prog 111 #[.slice (some ⟨b, o, none⟩) n c, U32 x] w fun e w' => e = .returned (.tuple #[]) ∧ w.grownBy w' (some b) ∧ Blk w' b t (putL cs o x n) := by
  go_enter Tryd.func111, Tryd.ntmps111
  go_wp2
  go_loopw [7] (fun i wr => ∃ k : Nat, k ≤ n ∧ i = .int .i64 k ∧ w.grownBy wr (some b) ∧ Blk wr b t (putL cs o x k)) (fun i _ => n - (intOf i).toNat)
  case atStart => exact ⟨0, Nat.zero_le _, rfl, grown_refl _ _, hb⟩
  case round =>
    obtain ⟨k, hk, rfl, hg, hbk⟩ := hrel
    by_cases hlt : k < n
    · obtain ⟨u, hc⟩ : ∃ u, wr.cell? ⟨b, o + k, none⟩ = some u := by
        rw [hbk.cell, Array.getElem?_eq_getElem (by rw [size_putL]; omega)]; exact ⟨_, rfl⟩
      have hf := hbk.frozen (o + k)
      have hr := byteL_eq x k (by omega)
      have hm : min (8 * k) 32 = 8 * k := by omega
      go_wp2
      go_roundw
      case rel => exact ⟨k + 1, by omega, by go_num, grown_setCell hg _ _, hbk.set_ _ _⟩
      case measure => simp [intOf]; omega
    · go_wp2
      obtain rfl : k = n := by omega
      go_end0
      exact ⟨rfl, hg, hbk⟩
theorem le32_shl (b : UInt8) (k : Nat) (h : k < 4) : n8 b * 2 ^ (8 * k) % 4294967296 = n32 (b.toUInt32 <<< UInt32.ofNat (8 * k)) := by
  rw [n32_of_n8, shl_n32 _ _ (by omega)]
set_option maxHeartbeats 400000 in
theorem readWordC_any (b o c : Nat) (bs : List UInt8) (w : World) (hb : Bytes w b o bs) (hl : bs.length = 4) :
    Calls Tryd.prog 121 #[.slice (some ⟨b, o, none⟩) 4 c] w fun e w' => e = .returned (U32 (le32 bs 4)) ∧ w = w' := by
  go_enter Tryd.func121, Tryd.ntmps121
  go_wp2
  go_loop [3, 7] (fun x i => ∃ k : Nat, k ≤ 4 ∧ i = .int .i64 k ∧ x = U32 (le32 bs k)) (fun _ i => 4 - (intOf i).toNat)
  case atStart => exact ⟨0, Nat.zero_le _, rfl, rfl⟩
  case round =>
    obtain ⟨k, hk, rfl, rfl⟩ := hrel
    by_cases hlt : k < 4
    · have hc := hb k (by omega)
      have hg : bs[k] = bs.getD k 0 := by simp [List.getD_eq_getElem?_getD, List.getElem?_eq_getElem (show k < bs.length by omega)]
      rw [hg] at hc
      obtain ⟨x, hx⟩ : ∃ x, x = bs.getD k 0 := ⟨_, rfl⟩
      rw [← hx] at hc
      have HX := hid hx
      clear hx hg
      have hs := le32_shl x k hlt
      have hz := n32_of_n8 x
      have hm : min (8 * k) 32 = 8 * k := by omega
      rw [hz] at hs
      go_wp2
      go_round
      case rel => exact ⟨k + 1, by omega, by go_num, by rw [le32, ← HX.out, show UInt32.ofNat (8 * k) = 8 * UInt32.ofNat k by simp]⟩
      case measure => simp [intOf]; omega
    · go_wp2
      obtain rfl : k = 4 := by omega
      go_ret
      exact ⟨rfl, rfl⟩
end Go.Proofs.YtgblhjmnenmlkaaDoor
namespace Go.Proofs.YtgblhjmnenmlkaaDoor
open Go.RowKit
attribute [local go_sem] and_n32 or_n32 xor_n32 add_n32 add_n32' wrap_n32

theorem new4 (w : World) (t1 t2 t3 t4 : TypeId) (A B C D : Array Value) : ∃ w0 : World, w0 = (((w.alloc (.cells A t1)).alloc (.cells B t2)).alloc (.cells C t3)).alloc (.cells D t4) ∧ Below w.heap.size w w0 ∧
    Blk w0 w.heap.size t1 A ∧ Blk w0 (w.heap.size + 1) t2 B ∧ Blk w0 (w.heap.size + 2) t3 C ∧ Blk w0 (w.heap.size + 3) t4 D ∧ w0.heap.size = w.heap.size + 4 :=
  ⟨_, rfl, ((((Below.refl _ _).alloc (Nat.le_refl _) _).alloc (by simp) _).alloc (by simp <;> omega) _).alloc (by simp <;> omega) _, (((Blk.new w t1 A).alloc _).alloc _).alloc _,
    ((show Blk ((w.alloc (.cells A t1)).alloc (.cells B t2)) (w.heap.size + 1) t2 B by simpa using Blk.new (w.alloc (.cells A t1)) t2 B).alloc _).alloc _,
    (show Blk (((w.alloc (.cells A t1)).alloc (.cells B t2)).alloc (.cells C t3)) (w.heap.size + 2) t3 C by simpa using Blk.new ((w.alloc (.cells A t1)).alloc (.cells B t2)) t3 C).alloc _,
    (show Blk ((((w.alloc (.cells A t1)).alloc (.cells B t2)).alloc (.cells C t3)).alloc (.cells D t4)) (w.heap.size + 3) t4 D by simpa using Blk.new (((w.alloc (.cells A t1)).alloc (.cells B t2)).alloc (.cells C t3)) t4 D), by simp⟩
theorem oneCell_map {α : Type} (f : α → Value) (hf : ∀ x, (f x).oneCell' = true) (l : List α) : ((l.map f).toArray).all (·.oneCell') = true := by
  rw [Array.all_eq_true]
  intro i hi
  simp only [List.getElem_toArray, List.getElem_map]
  exact hf _
theorem oneCell_rowOf {α : Type} (f : α → Value) (hf : ∀ x, (f x).oneCell' = true) (z : α) (n : Nat) (l : List α) : (rowOf f z n l).all (·.oneCell') = true := by
  rw [Array.all_eq_true]
  intro i hi
  have h := get_rowOf f z n l i (by simpa [size_rowOf] using hi)
  rw [Array.getElem?_eq_getElem hi] at h
  rw [Option.some.inj h]; exact hf _
theorem rowOf_full {α : Type} (f : α → Value) (z : α) (n : Nat) (l : List α) (h : l.length = n) : rowOf f z n l = (l.map f).toArray := by
  apply Array.ext_getElem?
  intro j
  by_cases hj : j < n
  · rw [get_rowOf _ _ _ _ _ hj]; simp [List.getD_eq_getElem?_getD, List.getElem?_eq_getElem (show j < l.length by omega)]
  · rw [Array.getElem?_eq_none (by rw [size_rowOf]; omega), Array.getElem?_eq_none (by simp <;> omega)]
theorem bytes_map {w : World} {g t : Nat} {L : List UInt8} (h : Blk w g t (L.map U8).toArray) : Bytes w g 0 L := fun j hj => by
  rw [h.cell, Nat.zero_add]; simp [hj]
theorem size_map {α : Type} (f : α → Value) (l : List α) (n : Nat) (h : l.length = n) : (l.map f).toArray.size = n := by simp [h]
theorem infoState : (Tryd.prog.info? 150).map (·.size) = some 16 := by kernel_rfl
theorem sizeState (l : List UInt32) (h : l.length = 16) : (Tryd.prog.info? 150).map (·.size) = some ((l.map U32).toArray).size := by rw [size_map _ _ _ h]; exact infoState
theorem sizeStateRow (l : List UInt32) : (Tryd.prog.info? 150).map (·.size) = some (rowOf U32 0 16 l).size := by rw [size_rowOf]; exact infoState

/-- a[l:h] of an array behind a pointer, its elements of one cell each. -/
theorem slice_arr {P : Program} (t e n : Nat) (hu : P.underlying t = some (.array n e)) (hs : (P.info? e).map (·.size) = some 1) (b : Nat) (kl kh : IntKind) (L H : Int) (l h : Nat) (hL : L = l) (hH : H = h) (h1 : l ≤ h) (h2 : h ≤ n) (h3 : l < n) (w : World) :
    (Instr.sliceAt t (.pointer (some ⟨b, 0, none⟩)) (some (.int kl L)) (some (.int kh H)) none).run P w = .ok (.slice (some ⟨b, l, none⟩) (h - l) (n - l)) w := by
  subst hL hH
  have ha : P.arrayLen t = n := by simp [Program.arrayLen, hu]
  have he : P.elem t = e := by simp [Program.elem, hu]
  have hs' : (sizeOf e).run P w = .ok 1 w := by
    cases hq : P.info? e with
    | none => simp [hq] at hs
    | some i => simp [hq] at hs; simp [sizeOf, typeInfo, hq, hs]
  rw [run_sliceAt_array_lh w t ⟨b, 0, none⟩ (by rw [ha, he]; exact hu) kl kh l h (by omega) (by omega) (by rw [ha]; omega), he, hs']
  simp only [Result.andThen_ok, slicedAt, ha, Int.toNat_natCast, Nat.mul_one]
  rw [if_neg (by omega), addr_add]
theorem four_bel (w : World) (t1 t2 t3 t4 : TypeId) (A B C D : Array Value) : Below w.heap.size w ((((w.alloc (.cells A t1)).alloc (.cells B t2)).alloc (.cells C t3)).alloc (.cells D t4)) :=
  ((((Below.refl _ _).alloc (Nat.le_refl _) _).alloc (by simp) _).alloc (by simp <;> omega) _).alloc (by simp <;> omega) _
theorem size8 : (Tryd.prog.info? 5).map (·.size) = some 1 := by kernel_rfl
def IRel (w : World) (key nonce : List UInt8) (l : List UInt32) (wr : World) : Prop :=
  Below w.heap.size w wr ∧ Blk wr w.heap.size 22 (key.map U8).toArray ∧ Blk wr (w.heap.size + 1) 34 (nonce.map U8).toArray ∧
    Blk wr (w.heap.size + 1 + 1) 150 (rowOf U32 0 16 []) ∧ Blk wr (w.heap.size + 1 + 1 + 1) 150 (rowOf U32 0 16 l)
theorem IRel.put {w wr : World} {key nonce : List UInt8} {l : List UInt32} (h : IRel w key nonce l wr) (v : UInt32) (i : Nat) (hi : i = l.length) : IRel w key nonce (l ++ [v]) (wr.setCell ⟨w.heap.size + 1 + 1 + 1, i, none⟩ (U32 v)) := by
  obtain ⟨h0, h1, h2, h3, h4⟩ := h
  refine ⟨h0.setCell (by simp <;> omega) _, h1.far (by simp <;> omega) _, h2.far (by simp <;> omega) _, h3.far (by simp) _, ?_⟩
  rw [← push_rowOf _ _ _ _ i _ hi]; exact h4.set_ _ _
theorem IRel.cell {w wr : World} {key nonce : List UInt8} {l : List UInt32} (h : IRel w key nonce l wr) (i : Nat) (hi : i < 16) : ∃ u, wr.cell? ⟨w.heap.size + 1 + 1 + 1, i, none⟩ = some u :=
  ⟨_, (h.2.2.2.2.cell i).trans (get_rowOf _ _ _ _ _ hi)⟩
set_option maxHeartbeats 2000000 in
set_option maxRecDepth 100000 in
theorem initial_any (key nonce : List UInt8) (ctr : UInt32) (w : World) (hk : key.length = 32) (hn : nonce.length = 12) :
    Calls Tryd.prog 109 #[.agg (key.map U8).toArray, U32 ctr, .agg (nonce.map U8).toArray] w fun e w' => e = .returned (.agg ((cInit key ctr nonce).map U32).toArray) ∧ Below w.heap.size w w' := by
  have hkl := hid hk
  have hnl := hid hn
  clear hk hn
  go_enter Tryd.func109, Tryd.ntmps109
  go_wp2
  go_loopw [11] (fun i wr => ∃ k : Nat, k ≤ 8 ∧ i = .int .i64 k ∧ IRel w key nonce (sigma ++ leWords key k) wr) (fun i _ => 8 - (intOf i).toNat)
  case atStart =>
    refine ⟨0, Nat.zero_le _, rfl, four_bel _ _ _ _ _ _ _ _ _, (((Blk.new w _ _).alloc _).alloc _).alloc _, ?_, ?_, ?_⟩
    · exact ((show Blk ((w.alloc _).alloc _) (w.heap.size + 1) _ _ by simpa using Blk.new (w.alloc (.cells (key.map U8).toArray 22)) 34 (nonce.map U8).toArray).alloc _).alloc _
    · refine blk_cast ((show Blk (((w.alloc _).alloc _).alloc _) (w.heap.size + 1 + 1) _ _ by simpa using Blk.new ((w.alloc (.cells (key.map U8).toArray 22)).alloc (.cells (nonce.map U8).toArray 34)) 150 _).alloc _) (by kernel_rfl)
    · refine blk_cast (show Blk ((((w.alloc _).alloc _).alloc _).alloc _) (w.heap.size + 1 + 1 + 1) _ _ by simpa using Blk.new (((w.alloc (.cells (key.map U8).toArray 22)).alloc (.cells (nonce.map U8).toArray 34)).alloc _) 150 _) (by kernel_rfl)
  case round =>
    obtain ⟨k, hk, rfl, hR⟩ := hrel
    by_cases hlt : k < 8
    · obtain ⟨u, hc⟩ := hR.cell (4 + k) (by omega)
      have hf := hR.2.2.2.2.frozen (4 + k)
      have hby : Bytes wr w.heap.size (4 * k) ((key.drop (4 * k)).take 4) := by simpa using (bytes_map hR.2.1).sub (4 * k) 4
      have hle : ((key.drop (4 * k)).take 4).length = 4 := by have := hkl.out; simp; omega
      have hnew : IRel w key nonce (sigma ++ leWords key (k + 1)) (wr.setCell ⟨w.heap.size + 1 + 1 + 1, 4 + k, none⟩ (U32 (le32 ((key.drop (4 * k)).take 4) 4))) := by
        rw [leWords_succ, ← List.append_assoc]
        exact hR.put _ _ (by simp [sigma, length_leWords]; omega)
      have hsl := slice_arr (P := Tryd.prog) 22 5 32 Tryd.underlying22 size8 w.heap.size .i64 .i64 (4 * (k : Int)) (4 * (k : Int) + 4) (4 * k) (4 * k + 4) (by omega) (by omega) (by omega) (by omega) (by omega)
      rw [show 4 * k + 4 - 4 * k = 4 by omega] at hsl
      go_wp2_with fail
      refine (readWordC_any _ _ _ _ _ hby hle).mono ?_
      rintro e w' ⟨rfl, rfl⟩
      go_wp2
      go_roundw
      case rel => exact ⟨k + 1, by omega, by go_num, hnew⟩
      case measure => simp [intOf]; omega
    · have hd : decide ((k : Int) < 8) = false := by simp; omega
      rw [show k = 8 by omega] at hR
      obtain ⟨u, hc⟩ := hR.cell 12 (by omega)
      have hf := hR.2.2.2.2.frozen 12
      have hput := hR.put ctr 12 (by simp [sigma, length_leWords])
      clear hR
      go_wp2
      clear hc hf hd hlt
      go_loopw [27] (fun i wr => ∃ k : Nat, k ≤ 3 ∧ i = .int .i64 k ∧ IRel w key nonce (sigma ++ leWords key 8 ++ [ctr] ++ leWords nonce k) wr) (fun i _ => 3 - (intOf i).toNat)
      case atStart => exact ⟨0, Nat.zero_le _, rfl, by simpa [leWords] using hput⟩
      case round =>
        clear hput
        obtain ⟨k, hk, rfl, hR⟩ := hrel
        by_cases hlt : k < 3
        · obtain ⟨u, hc⟩ := hR.cell (13 + k) (by omega)
          have hf := hR.2.2.2.2.frozen (13 + k)
          have hby : Bytes wr (w.heap.size + 1) (4 * k) ((nonce.drop (4 * k)).take 4) := by simpa using (bytes_map hR.2.2.1).sub (4 * k) 4
          have hle : ((nonce.drop (4 * k)).take 4).length = 4 := by have := hnl.out; simp; omega
          have hnew : IRel w key nonce (sigma ++ leWords key 8 ++ [ctr] ++ leWords nonce (k + 1)) (wr.setCell ⟨w.heap.size + 1 + 1 + 1, 13 + k, none⟩ (U32 (le32 ((nonce.drop (4 * k)).take 4) 4))) := by
            rw [leWords_succ nonce k, ← List.append_assoc]
            exact hR.put _ _ (by simp [sigma, length_leWords]; omega)
          have hsl := slice_arr (P := Tryd.prog) 34 5 12 Tryd.underlying34 size8 (w.heap.size + 1) .i64 .i64 (4 * (k : Int)) (4 * (k : Int) + 4) (4 * k) (4 * k + 4) (by omega) (by omega) (by omega) (by omega) (by omega)
          rw [show 4 * k + 4 - 4 * k = 4 by omega] at hsl
          go_wp2_with fail
          refine (readWordC_any _ _ _ _ _ hby hle).mono ?_
          rintro e w' ⟨rfl, rfl⟩
          go_wp2
          go_roundw
          case rel => exact ⟨k + 1, by omega, by go_num, hnew⟩
          case measure => simp [intOf]; omega
        · have hd : decide ((k : Int) < 3) = false := by simp; omega
          rw [show k = 3 by omega] at hR
          obtain ⟨hbel, h1, h2, h3, h4⟩ := hR
          have e : rowOf U32 0 16 (sigma ++ leWords key 8 ++ [ctr] ++ leWords nonce 3) = ((cInit key ctr nonce).map U32).toArray := rowOf_full _ _ _ _ (length_cInit _ _ _)
          rw [e] at h4
          clear e
          go_wp2_with (first
            | (refine wpList_load_blk rfl 150 (.tmp 7) rfl (w.heap.size + 1 + 1 + 1) rfl 150 _ _ h4 Tryd.underlying150 rfl (sizeState _ (length_cInit _ _ _)) ?_)
            | (refine wpList_store_blk rfl 150 (.tmp 6) (.tmp 41) rfl (w.heap.size + 1 + 1) _ rfl rfl 150 _ h3 (sizeState _ (length_cInit _ _ _)) (by rw [size_rowOf, size_map _ _ _ (length_cInit _ _ _)]) (oneCell_map _ (fun _ => rfl) _) ?_
               intro wz hbz hgz
               have hbelz := below_grown hbel hgz hbel.size (by omega)))
          exact bodyPost_ret (results_cell_row rfl _ _ (w.heap.size + 1 + 1) 150 _ (0, 0) _ rfl hbz Tryd.underlying150 rfl (sizeState _ (length_cInit _ _ _))) rfl ⟨rfl, hbelz⟩
end Go.Proofs.YtgblhjmnenmlkaaDoor
namespace Go.Proofs.YtgblhjmnenmlkaaDoor
open Go.RowKit
attribute [local go_sem] and_n32 or_n32 xor_n32 add_n32 add_n32' wrap_n32

theorem map_get {α : Type} (f : α → Value) (z : α) (l : List α) (i : Nat) (h : i < l.length) : (l.map f).toArray[i]? = some (f (l.getD i z)) := by
  simp [List.getD_eq_getElem?_getD, List.getElem?_eq_getElem h]
theorem map_set {α : Type} (f : α → Value) (l : List α) (i : Nat) (v : α) : (l.map f).toArray.setIfInBounds i (f v) = ((l.set i v).map f).toArray := by
  simp [List.map_set]
set_option maxHeartbeats 2000000 in
set_option maxRecDepth 100000 in
theorem quarter_any (g a b c d : Nat) (l : List UInt32) (w : World) (hg : Blk w g 150 (l.map U32).toArray) (hl : l.length = 16) (ha : a < 16) (hb : b < 16) (hc : c < 16) (hd : d < 16) (hab : a ≠ b) (hac : a ≠ c) (had : a ≠ d) (hbc : b ≠ c) (hbd : b ≠ d) (hcd : c ≠ d) :
    Calls Tryd.prog 110 #[.pointer (some ⟨g, 0, none⟩), .agg #[.int .i64 (a : Int), .int .i64 (b : Int), .int .i64 (c : Int), .int .i64 (d : Int)]] w
      fun e w' => e = .returned (.tuple #[]) ∧ w.grownBy w' (some g) ∧ Blk w' g 150 ((quarter l a b c d).map U32).toArray := by
  obtain ⟨w1, hw1, hbel1, hb1, hsz1⟩ : ∃ w1 : World, w1 = w.alloc (.cells #[.int .i64 (a : Int), .int .i64 (b : Int), .int .i64 (c : Int), .int .i64 (d : Int)] 154) ∧ Below w.heap.size w w1 ∧ Blk w1 w.heap.size 154 #[.int .i64 (a : Int), .int .i64 (b : Int), .int .i64 (c : Int), .int .i64 (d : Int)] ∧ w1.heap.size = w.heap.size + 1 :=
    ⟨_, rfl, (Below.refl _ _).alloc (Nat.le_refl _) _, Blk.new w _ _, by simp⟩
  have hg1 := hg.below hbel1 hg.lt
  have hne : g ≠ w.heap.size := Nat.ne_of_lt hg.lt
  have HW := hid hw1
  clear hw1 hsz1 hg
  have ca := (hg1.cell a).trans (map_get U32 0 l a (by omega))
  have cb := (hg1.cell b).trans (map_get U32 0 l b (by omega))
  have cc := (hg1.cell c).trans (map_get U32 0 l c (by omega))
  have cd := (hg1.cell d).trans (map_get U32 0 l d (by omega))
  obtain ⟨A, hA⟩ : ∃ A, A = l.getD a 0 := ⟨_, rfl⟩
  obtain ⟨B, hB⟩ : ∃ A, A = l.getD b 0 := ⟨_, rfl⟩
  obtain ⟨C, hC⟩ : ∃ A, A = l.getD c 0 := ⟨_, rfl⟩
  obtain ⟨D, hD⟩ : ∃ A, A = l.getD d 0 := ⟨_, rfl⟩
  rw [← hA] at ca
  rw [← hB] at cb
  rw [← hC] at cc
  rw [← hD] at cd
  have i0 : w1.cell? ⟨w.heap.size, 0, none⟩ = some (.int .i64 (a : Int)) := hb1.cell 0
  have i1 : w1.cell? ⟨w.heap.size, 1, none⟩ = some (.int .i64 (b : Int)) := hb1.cell 1
  have i2 : w1.cell? ⟨w.heap.size, 2, none⟩ = some (.int .i64 (c : Int)) := hb1.cell 2
  have i3 : w1.cell? ⟨w.heap.size, 3, none⟩ = some (.int .i64 (d : Int)) := hb1.cell 3
  have HA := hid hA
  have HB := hid hB
  have HC := hid hC
  have HD := hid hD
  have HL := hid hl
  clear hA hB hC hD hl
  go_enter Tryd.func110, Tryd.ntmps110
  go_wp2
  rw [← HW.out]
  go_quiet (fail)
  go_wp2_with (go_at_call 122; refine (mix_any _ _ _ _ _ (by omega) (by omega)).mono ?_; rintro e w' ⟨rfl, rfl⟩)
  obtain ⟨A2, hA2⟩ : ∃ x, x = A + B + rotl32 (B ^^^ (C + rotl32 (D ^^^ (A + B)) 16)) 12 := ⟨_, rfl⟩
  obtain ⟨D2, hD2⟩ : ∃ x, x = rotl32 (rotl32 (D ^^^ (A + B)) 16 ^^^ A2) 8 := ⟨_, rfl⟩
  obtain ⟨C2, hC2⟩ : ∃ x, x = C + rotl32 (D ^^^ (A + B)) 16 + D2 := ⟨_, rfl⟩
  obtain ⟨B2, hB2⟩ : ∃ x, x = rotl32 (rotl32 (B ^^^ (C + rotl32 (D ^^^ (A + B)) 16)) 12 ^^^ C2) 7 := ⟨_, rfl⟩
  simp only [← hA2, ← hD2, ← hC2, ← hB2]
  have hq : quarter l a b c d = (((l.set a A2).set b B2).set c C2).set d D2 := by
    rw [quarter, ← HA.out, ← HB.out, ← HC.out, ← HD.out, hB2, hC2, hD2, hA2]; rfl
  have HQ := hid hq
  clear hq hA2 hB2 hC2 hD2
  obtain ⟨w2, hw2, hg2, hbel2, hb2⟩ : ∃ w2, w2 = w1.drewN _ ∧ Blk w2 g 150 (l.map U32).toArray ∧ Below w.heap.size w w2 ∧ Blk w2 w.heap.size 154 #[.int .i64 (a : Int), .int .i64 (b : Int), .int .i64 (c : Int), .int .i64 (d : Int)] :=
    ⟨_, rfl, hg1.drewN _, below_drewN hbel1 _, hb1.drewN _⟩
  rw [← hw2]
  clear hw2 ca cb cc cd i0 i1 i2 i3 hg1 hbel1 hb1
  have i0 : w2.cell? ⟨w.heap.size, 0, none⟩ = some (.int .i64 (a : Int)) := hb2.cell 0
  have i1 : w2.cell? ⟨w.heap.size, 1, none⟩ = some (.int .i64 (b : Int)) := hb2.cell 1
  have i2 : w2.cell? ⟨w.heap.size, 2, none⟩ = some (.int .i64 (c : Int)) := hb2.cell 2
  have i3 : w2.cell? ⟨w.heap.size, 3, none⟩ = some (.int .i64 (d : Int)) := hb2.cell 3
  have hl := HL.out
  have ca := (hg2.cell a).trans (map_get U32 0 l a (by omega))
  have cb := (hg2.cell b).trans (map_get U32 0 l b (by omega))
  have cc := (hg2.cell c).trans (map_get U32 0 l c (by omega))
  have cd := (hg2.cell d).trans (map_get U32 0 l d (by omega))
  have fa := hg2.frozen a
  have fb := hg2.frozen b
  have fc := hg2.frozen c
  have fd := hg2.frozen d
  clear hl
  go_region
  go_end0
  refine ⟨rfl, ?_, ?_⟩
  · have h0 : w.grownBy w2 (some g) := ⟨hbel2.os, hbel2.tape, hbel2.output, hbel2.size, fun k hk _ => hbel2.block k hk⟩
    exact grown_drew (grown_setCell (grown_setCell (grown_setCell (grown_setCell h0 _ _) _ _) _ _) _ _)
  · rw [HQ.out, ← map_set, ← map_set, ← map_set, ← map_set]
    exact ((((hg2.set_ a _).set_ b _).set_ c _).set_ d _).drew
theorem qAt_bd (i : Nat) (h : i < 8) : qAt i 0 < 16 ∧ qAt i 1 < 16 ∧ qAt i 2 < 16 ∧ qAt i 3 < 16 ∧ qAt i 0 ≠ qAt i 1 ∧ qAt i 0 ≠ qAt i 2 ∧ qAt i 0 ≠ qAt i 3 ∧ qAt i 1 ≠ qAt i 2 ∧ qAt i 1 ≠ qAt i 3 ∧ qAt i 2 ≠ qAt i 3 := by
  revert i; decide
theorem qrow_any (g i : Nat) (l : List UInt32) (w : World) (hg : Blk w g 150 (l.map U32).toArray) (hl : l.length = 16) (hi : i < 8) :
    Calls Tryd.prog 110 #[.pointer (some ⟨g, 0, none⟩), .agg #[.int .i64 (qAt i 0 : Int), .int .i64 (qAt i 1 : Int), .int .i64 (qAt i 2 : Int), .int .i64 (qAt i 3 : Int)]] w
      fun e w' => e = .returned (.tuple #[]) ∧ w.grownBy w' (some g) ∧ Blk w' g 150 ((qrow l i).map U32).toArray := by
  obtain ⟨h1, h2, h3, h4, h5, h6, h7, h8, h9, h10⟩ := qAt_bd i hi
  exact quarter_any g _ _ _ _ l w hg hl h1 h2 h3 h4 h5 h6 h7 h8 h9 h10
end Go.Proofs.YtgblhjmnenmlkaaDoor
namespace Go.Proofs.YtgblhjmnenmlkaaDoor
open Go.RowKit
attribute [local go_sem] and_n32 or_n32 xor_n32 add_n32 add_n32' wrap_n32

/-- The table of the quarter rounds' indices stands as the program lays it. -/
def QAt (w : World) : Prop := ∀ i j, i < 8 → j < 4 → w.cell? ⟨21, 4 * i + j, none⟩ = some (.int .i64 (qAt i j : Int))
theorem QAt.lt {w : World} (h : QAt w) : 21 < w.heap.size := block_lt_of_cell (h 0 0 (by omega) (by omega))
theorem QAt.below {w w' : World} (h : QAt w) {B : Nat} (hb : Below B w w') (hB : 21 < B) : QAt w' := fun i j hi hj => (hb.cell (p := ⟨21, 4 * i + j, none⟩) hB).trans (h i j hi hj)
theorem QAt.cells {w : World} (h : QAt w) (i : Nat) (hi : i < 8) : w.cell? ⟨21, i * 4, none⟩ = some (.int .i64 (qAt i 0 : Int)) ∧ w.cell? ⟨21, i * 4 + 1, none⟩ = some (.int .i64 (qAt i 1 : Int)) ∧
    w.cell? ⟨21, i * 4 + 2, none⟩ = some (.int .i64 (qAt i 2 : Int)) ∧ w.cell? ⟨21, i * 4 + 3, none⟩ = some (.int .i64 (qAt i 3 : Int)) := by
  rw [Nat.mul_comm i 4]
  exact ⟨h i 0 hi (by omega), h i 1 hi (by omega), h i 2 hi (by omega), h i 3 hi (by omega)⟩
theorem new3 (w : World) (t1 t2 t3 : TypeId) (A B C : Array Value) : ∃ w0 : World, w0 = ((w.alloc (.cells A t1)).alloc (.cells B t2)).alloc (.cells C t3) ∧ Below w.heap.size w w0 ∧
    Blk w0 w.heap.size t1 A ∧ Blk w0 (w.heap.size + 1) t2 B ∧ Blk w0 (w.heap.size + 1 + 1) t3 C ∧ w0.heap.size = w.heap.size + 3 :=
  ⟨_, rfl, (((Below.refl _ _).alloc (Nat.le_refl _) _).alloc (by simp) _).alloc (by simp <;> omega) _, ((Blk.new w t1 A).alloc _).alloc _,
    ((show Blk ((w.alloc (.cells A t1)).alloc (.cells B t2)) (w.heap.size + 1) t2 B by simpa using Blk.new (w.alloc (.cells A t1)) t2 B).alloc _),
    (show Blk (((w.alloc (.cells A t1)).alloc (.cells B t2)).alloc (.cells C t3)) (w.heap.size + 1 + 1) t3 C by simpa using Blk.new ((w.alloc (.cells A t1)).alloc (.cells B t2)) t3 C), by simp⟩
theorem size22 (l : List UInt8) (h : l.length = 32) : (Tryd.prog.info? 22).map (·.size) = some ((l.map U8).toArray).size := by rw [size_map _ _ _ h]; kernel_rfl
theorem size24 (l : List UInt8) (h : l.length = 12) : (Tryd.prog.info? 34).map (·.size) = some ((l.map U8).toArray).size := by rw [size_map _ _ _ h]; kernel_rfl
theorem size26 (l : List UInt8) (h : l.length = 64) : (Tryd.prog.info? 130).map (·.size) = some ((l.map U8).toArray).size := by rw [size_map _ _ _ h]; kernel_rfl

def BRel (w : World) (gI gS : Nat) (l st : List UInt32) (wr : World) : Prop :=
  Below w.heap.size w wr ∧ QAt wr ∧ Blk wr (w.heap.size + 1 + 1) 130 #[Value.int IntKind.u8 0, Value.int IntKind.u8 0, Value.int IntKind.u8 0, Value.int IntKind.u8 0, Value.int IntKind.u8 0, Value.int IntKind.u8 0, Value.int IntKind.u8 0, Value.int IntKind.u8 0, Value.int IntKind.u8 0, Value.int IntKind.u8 0, Value.int IntKind.u8 0, Value.int IntKind.u8 0, Value.int IntKind.u8 0, Value.int IntKind.u8 0, Value.int IntKind.u8 0, Value.int IntKind.u8 0, Value.int IntKind.u8 0, Value.int IntKind.u8 0, Value.int IntKind.u8 0, Value.int IntKind.u8 0, Value.int IntKind.u8 0, Value.int IntKind.u8 0, Value.int IntKind.u8 0, Value.int IntKind.u8 0, Value.int IntKind.u8 0, Value.int IntKind.u8 0, Value.int IntKind.u8 0, Value.int IntKind.u8 0, Value.int IntKind.u8 0, Value.int IntKind.u8 0, Value.int IntKind.u8 0, Value.int IntKind.u8 0, Value.int IntKind.u8 0, Value.int IntKind.u8 0, Value.int IntKind.u8 0, Value.int IntKind.u8 0, Value.int IntKind.u8 0, Value.int IntKind.u8 0, Value.int IntKind.u8 0, Value.int IntKind.u8 0, Value.int IntKind.u8 0, Value.int IntKind.u8 0, Value.int IntKind.u8 0, Value.int IntKind.u8 0, Value.int IntKind.u8 0, Value.int IntKind.u8 0, Value.int IntKind.u8 0, Value.int IntKind.u8 0, Value.int IntKind.u8 0, Value.int IntKind.u8 0, Value.int IntKind.u8 0, Value.int IntKind.u8 0, Value.int IntKind.u8 0, Value.int IntKind.u8 0, Value.int IntKind.u8 0, Value.int IntKind.u8 0, Value.int IntKind.u8 0, Value.int IntKind.u8 0, Value.int IntKind.u8 0, Value.int IntKind.u8 0, Value.int IntKind.u8 0, Value.int IntKind.u8 0, Value.int IntKind.u8 0, Value.int IntKind.u8 0] ∧ Blk wr gI 150 (l.map U32).toArray ∧ Blk wr gS 150 (st.map U32).toArray
theorem BRel.next {w wr w' : World} {gI gS : Nat} {l st st' : List UInt32} (h : BRel w gI gS l st wr) (hg : wr.grownBy w' (some gS)) (h1 : w.heap.size + 2 < gI) (h2 : gI < gS) (hq : 21 < w.heap.size) (hs : Blk w' gS 150 (st'.map U32).toArray) : BRel w gI gS l st' w' := by
  obtain ⟨hb, hQ, hR, hI, _⟩ := h
  have hb' := below_grown hb hg hb.size (by omega)
  refine ⟨hb', fun i j hi hj => ?_, hR.gro hg (by omega), hI.gro hg (by omega), hs⟩
  exact (World.cell?_of_block (w := wr) (a := ⟨21, 4 * i + j, none⟩) (hg.block _ hQ.lt (fun e => by injection e with e; have e' : 21 = gS := e; omega))).trans (hQ i j hi hj)
theorem region_tail {P : Program} {id : Nat} {Q : Exit → Act → World → Prop} {a : Act} {w : World} {l : List Oper} (n : Nat) (hm : P.follows .mixedOrders = true) (hB : Region.lexTailB .any l.toArray n = true)
    (h : wpStill P l.toArray w.drew (fun a' => wpList P l.toArray Q (l.drop n) a' w.drew) (l.take n) a) : (Code.region id l.toArray true).wp P Q a w :=
  wp_region_still_tail n hm hB h
theorem cSums_get (l : List UInt32) (j : Nat) (h : j < l.length) : (cSums l).getD j 0 = (rnds l 10).getD j 0 + l.getD j 0 := by
  have h2 : j < (rnds l 10).length := by rw [length_rnds]; exact h
  simp only [cSums, List.getD_eq_getElem?_getD, List.getElem?_zipWith, List.getElem?_eq_getElem h, List.getElem?_eq_getElem h2, Option.getD_some]
theorem putL_row (L : List UInt8) (n : Nat) (x : UInt32) : putL (rowOf U8 0 n L) L.length x 4 = rowOf U8 0 n (L ++ wordBytes x) := by
  simp only [putL, Nat.add_zero]
  rw [push_rowOf _ _ _ _ _ _ rfl, push_rowOf _ _ _ _ _ _ (by simp), push_rowOf _ _ _ _ _ _ (by simp), push_rowOf _ _ _ _ _ _ (by simp)]
  simp [wordBytes]
def ORel (w : World) (gI gS gO : Nat) (l : List UInt32) (j : Nat) (wr : World) : Prop :=
  Below w.heap.size w wr ∧ Blk wr (w.heap.size + 1 + 1) 130 #[Value.int IntKind.u8 0, Value.int IntKind.u8 0, Value.int IntKind.u8 0, Value.int IntKind.u8 0, Value.int IntKind.u8 0, Value.int IntKind.u8 0, Value.int IntKind.u8 0, Value.int IntKind.u8 0, Value.int IntKind.u8 0, Value.int IntKind.u8 0, Value.int IntKind.u8 0, Value.int IntKind.u8 0, Value.int IntKind.u8 0, Value.int IntKind.u8 0, Value.int IntKind.u8 0, Value.int IntKind.u8 0, Value.int IntKind.u8 0, Value.int IntKind.u8 0, Value.int IntKind.u8 0, Value.int IntKind.u8 0, Value.int IntKind.u8 0, Value.int IntKind.u8 0, Value.int IntKind.u8 0, Value.int IntKind.u8 0, Value.int IntKind.u8 0, Value.int IntKind.u8 0, Value.int IntKind.u8 0, Value.int IntKind.u8 0, Value.int IntKind.u8 0, Value.int IntKind.u8 0, Value.int IntKind.u8 0, Value.int IntKind.u8 0, Value.int IntKind.u8 0, Value.int IntKind.u8 0, Value.int IntKind.u8 0, Value.int IntKind.u8 0, Value.int IntKind.u8 0, Value.int IntKind.u8 0, Value.int IntKind.u8 0, Value.int IntKind.u8 0, Value.int IntKind.u8 0, Value.int IntKind.u8 0, Value.int IntKind.u8 0, Value.int IntKind.u8 0, Value.int IntKind.u8 0, Value.int IntKind.u8 0, Value.int IntKind.u8 0, Value.int IntKind.u8 0, Value.int IntKind.u8 0, Value.int IntKind.u8 0, Value.int IntKind.u8 0, Value.int IntKind.u8 0, Value.int IntKind.u8 0, Value.int IntKind.u8 0, Value.int IntKind.u8 0, Value.int IntKind.u8 0, Value.int IntKind.u8 0, Value.int IntKind.u8 0, Value.int IntKind.u8 0, Value.int IntKind.u8 0, Value.int IntKind.u8 0, Value.int IntKind.u8 0, Value.int IntKind.u8 0, Value.int IntKind.u8 0] ∧ Blk wr gI 150 (l.map U32).toArray ∧ Blk wr gS 150 ((rnds l 10).map U32).toArray ∧ Blk wr gO 130 (rowOf U8 0 64 (outBytes ((cSums l).take j)))
theorem ORel.next {w wr w' : World} {gI gS gO : Nat} {l : List UInt32} {j : Nat} {x y : UInt32} (h : ORel w gI gS gO l j wr) (hl : l.length = 16) (hj : j < 16) (h1 : w.heap.size + 2 < gI ∧ gI < gO) (h2 : w.heap.size + 2 < gS ∧ gS < gO)
    (hs : (cSums l).getD j 0 = y + x) (hg : wr.drew.grownBy w' (some gO)) (hn : Blk w' gO 130 (putL (rowOf U8 0 64 (outBytes ((cSums l).take j))) (4 * j) (y + x) 4)) : ORel w gI gS gO l (j + 1) w' := by
  obtain ⟨hb, hR, hI, hS, _⟩ := h
  have hjl : j < (cSums l).length := by rw [length_cSums, hl]; exact hj
  refine ⟨below_grown hb.drew hg hb.size (by omega), hR.drew.gro hg (by omega), hI.drew.gro hg (by omega), hS.drew.gro hg (by omega), ?_⟩
  have e : 4 * j = (outBytes ((cSums l).take j)).length := by rw [length_outBytes, List.length_take]; omega
  rw [e, putL_row, ← hs] at hn
  rw [outBytes_succ _ _ hjl]
  rwa [List.getD_eq_getElem?_getD, List.getElem?_eq_getElem hjl] at hn
theorem blk3a (w : World) (t : TypeId) (A : Array Value) (o2 o3 : Obj) : Blk (((w.alloc (.cells A t)).alloc o2).alloc o3) w.heap.size t A := ((Blk.new w t A).alloc _).alloc _
theorem blk3b (w : World) (t : TypeId) (A : Array Value) (o1 o3 : Obj) : Blk (((w.alloc o1).alloc (.cells A t)).alloc o3) (w.heap.size + 1) t A :=
  (show Blk ((w.alloc o1).alloc (.cells A t)) (w.heap.size + 1) t A by simpa using Blk.new (w.alloc o1) t A).alloc _

set_option maxHeartbeats 500000 in
set_option maxRecDepth 100000 in
theorem cblock_any (key nonce : List UInt8) (ctr : UInt32) (w : World) (hk : key.length = 32) (hn : nonce.length = 12) (hQ : QAt w) :
    Calls Tryd.prog 88 #[.agg (key.map U8).toArray, U32 ctr, .agg (nonce.map U8).toArray] w fun e w' => e = .returned (.agg ((cBlock key ctr nonce).map U8).toArray) ∧ Below w.heap.size w w' := by
  obtain ⟨w0, hw0, hbel0, hbK, hbN, hbR, hsz⟩ := new3 w 22 34 130 (key.map U8).toArray (nonce.map U8).toArray #[Value.int IntKind.u8 0, Value.int IntKind.u8 0, Value.int IntKind.u8 0, Value.int IntKind.u8 0, Value.int IntKind.u8 0, Value.int IntKind.u8 0, Value.int IntKind.u8 0, Value.int IntKind.u8 0, Value.int IntKind.u8 0, Value.int IntKind.u8 0, Value.int IntKind.u8 0, Value.int IntKind.u8 0, Value.int IntKind.u8 0, Value.int IntKind.u8 0, Value.int IntKind.u8 0, Value.int IntKind.u8 0, Value.int IntKind.u8 0, Value.int IntKind.u8 0, Value.int IntKind.u8 0, Value.int IntKind.u8 0, Value.int IntKind.u8 0, Value.int IntKind.u8 0, Value.int IntKind.u8 0, Value.int IntKind.u8 0, Value.int IntKind.u8 0, Value.int IntKind.u8 0, Value.int IntKind.u8 0, Value.int IntKind.u8 0, Value.int IntKind.u8 0, Value.int IntKind.u8 0, Value.int IntKind.u8 0, Value.int IntKind.u8 0, Value.int IntKind.u8 0, Value.int IntKind.u8 0, Value.int IntKind.u8 0, Value.int IntKind.u8 0, Value.int IntKind.u8 0, Value.int IntKind.u8 0, Value.int IntKind.u8 0, Value.int IntKind.u8 0, Value.int IntKind.u8 0, Value.int IntKind.u8 0, Value.int IntKind.u8 0, Value.int IntKind.u8 0, Value.int IntKind.u8 0, Value.int IntKind.u8 0, Value.int IntKind.u8 0, Value.int IntKind.u8 0, Value.int IntKind.u8 0, Value.int IntKind.u8 0, Value.int IntKind.u8 0, Value.int IntKind.u8 0, Value.int IntKind.u8 0, Value.int IntKind.u8 0, Value.int IntKind.u8 0, Value.int IntKind.u8 0, Value.int IntKind.u8 0, Value.int IntKind.u8 0, Value.int IntKind.u8 0, Value.int IntKind.u8 0, Value.int IntKind.u8 0, Value.int IntKind.u8 0, Value.int IntKind.u8 0, Value.int IntKind.u8 0]
  have HW := hid hw0
  have hsz1 : w.heap.size + 3 ≤ w0.heap.size := by omega
  clear hw0 hsz hbK hbN
  have hkl := hid hk
  have hnl := hid hn
  clear hk hn
  go_enter Tryd.func88, Tryd.ntmps88
  go_wp2_with (first
    | (refine wpList_load_blk rfl 22 (.tmp 3) rfl w.heap.size rfl 22 _ _ (blk3a w _ _ _ _) Tryd.underlying22 rfl (size22 _ hkl.out) ?_)
    | (refine wpList_load_blk rfl 34 (.tmp 5) rfl (w.heap.size + 1) rfl 34 _ _ (blk3b w _ _ _ _) Tryd.underlying34 rfl (size24 _ hnl.out) ?_))
  rw [← HW.out]
  clear HW
  refine (initial_any key nonce ctr w0 hkl.out hnl.out).mono ?_
  rintro e w1 ⟨rfl, hb1⟩
  have hbel1 : Below w.heap.size w w1 := hbel0.trans (hb1.mono (by omega))
  have hbR1 := hbR.below hb1 (by omega)
  have hs1 := hb1.size
  clear hb1 hbR hbel0
  obtain ⟨l, hl0⟩ : ∃ l, l = cInit key ctr nonce := ⟨_, rfl⟩
  have hl : l.length = 16 := by rw [hl0, length_cInit]
  have hout : cBlock key ctr nonce = outBytes (cSums l) := by rw [cBlock, hl0]
  rw [← hl0]
  have HL := hid hl
  have HOUT := hid hout
  have HQ0 := hid hQ
  clear hl hl0 hout hQ
  go_wp2_with (first
    | (refine wpList_store_blk rfl 150 (.tmp 7) (.tmp 15) rfl w1.heap.size _ rfl rfl 150 _ (Blk.new w1 150 _) (sizeState _ HL.out) (by rw [size_map _ _ _ HL.out]; rfl) (oneCell_map _ (fun _ => rfl) _) ?_
       intro w2 hI hg2
       have hs2 := hg2.size
       simp only [World.size_alloc] at hs2
       have hbel2 := below_grown (hbel1.alloc (by omega) _) hg2 (by simp; omega) (by omega)
       have hR2 := (hbR1.alloc _).gro hg2 (by omega)
       clear hg2)
    | (refine wpList_load_blk rfl 150 (.tmp 7) rfl w1.heap.size rfl 150 _ _ hI Tryd.underlying150 rfl (sizeState _ HL.out) ?_)
    | (refine wpList_store_blk rfl 150 (.tmp 8) (.tmp 16) rfl w2.heap.size _ rfl rfl 150 _ (Blk.new w2 150 _) (sizeState _ HL.out) (by rw [size_map _ _ _ HL.out]; rfl) (oneCell_map _ (fun _ => rfl) _) ?_
       intro w3 hS hg3
       have hs3 := hg3.size
       simp only [World.size_alloc] at hs3
       have hbel3 := below_grown (hbel2.alloc (by omega) _) hg3 (by simp; omega) (by omega)
       have hR3 := (hR2.alloc _).gro hg3 (by omega)
       have hI3 := (hI.alloc _).gro hg3 (by omega)
       clear hg3 hR2 hI hbel2 hbR1 hbel1))
  have hQ3 : QAt w3 := HQ0.out.below hbel3 HQ0.out.lt
  have HQL := hid HQ0.out.lt
  clear HQ0
  go_loopw [17] (fun i wr => ∃ k : Nat, k ≤ 10 ∧ i = .int .i64 k ∧ BRel w w1.heap.size w2.heap.size l (rnds l k) wr) (fun i _ => 10 - (intOf i).toNat)
  case atStart => exact ⟨0, Nat.zero_le _, rfl, hbel3, hQ3, hR3, hI3, hS⟩
  case round =>
    clear hbel3 hQ3 hR3 hI3 hS
    obtain ⟨k, hk, rfl, hR⟩ := hrel
    by_cases hlt : k < 10
    · have hd : decide ((k : Int) < 10) = true := by simp; omega
      obtain ⟨wo, rfl⟩ : ∃ wo : World, wo = wr := ⟨_, rfl⟩
      go_wp2
      go_loopw [9, 19] (fun _ i wr => ∃ j : Nat, j ≤ 8 ∧ i = .int .i64 j ∧ BRel w w1.heap.size w2.heap.size l (dbl (rnds l k) j) wr) (fun _ i _ => 8 - (intOf i).toNat)
      case atStart => exact ⟨0, Nat.zero_le _, rfl, hR⟩
      case round =>
        clear hR
        obtain ⟨j, hj, rfl, hR⟩ := hrel
        by_cases hlt2 : j < 8
        · obtain ⟨q0, q1, q2, q3⟩ := hR.2.1.cells j hlt2
          have hjz : (0 : Int) ≤ j := by omega
          have hj8 : (j : Int) < 8 := by omega
          have hR' := hid hR
          clear hR
          go_wp2_with fail
          refine (qrow_any _ j _ _ hR'.out.2.2.2.2 (by rw [length_dbl, length_rnds]; exact HL.out) hlt2).mono ?_
          rintro e w' ⟨rfl, hgr, hnew⟩
          have hR2 := hR'.out.next hgr (by omega) (by omega) HQL.out hnew
          clear hR' hgr hnew q0 q1 q2 q3
          go_wp2
          go_roundw
          case rel => exact ⟨j + 1, by omega, by go_num, hR2⟩
          case measure => simp [intOf]; omega
        · rw [show j = 8 by omega] at hR
          have hd2 : decide ((j : Int) < 8) = false := by simp; omega
          go_wp2
          go_roundw
          case rel => exact ⟨k + 1, by omega, by go_num, hR⟩
          case measure => simp [intOf]; omega
    · rw [show k = 10 by omega] at hR
      have hd : decide ((k : Int) < 10) = false := by simp; omega
      obtain ⟨hbel, _, hR, hI, hS⟩ := hR
      have hlo := hS.lt
      have hz : rowOf U8 0 64 (outBytes ((cSums l).take 0)) = #[Value.int IntKind.u8 0, Value.int IntKind.u8 0, Value.int IntKind.u8 0, Value.int IntKind.u8 0, Value.int IntKind.u8 0, Value.int IntKind.u8 0, Value.int IntKind.u8 0, Value.int IntKind.u8 0, Value.int IntKind.u8 0, Value.int IntKind.u8 0, Value.int IntKind.u8 0, Value.int IntKind.u8 0, Value.int IntKind.u8 0, Value.int IntKind.u8 0, Value.int IntKind.u8 0, Value.int IntKind.u8 0, Value.int IntKind.u8 0, Value.int IntKind.u8 0, Value.int IntKind.u8 0, Value.int IntKind.u8 0, Value.int IntKind.u8 0, Value.int IntKind.u8 0, Value.int IntKind.u8 0, Value.int IntKind.u8 0, Value.int IntKind.u8 0, Value.int IntKind.u8 0, Value.int IntKind.u8 0, Value.int IntKind.u8 0, Value.int IntKind.u8 0, Value.int IntKind.u8 0, Value.int IntKind.u8 0, Value.int IntKind.u8 0, Value.int IntKind.u8 0, Value.int IntKind.u8 0, Value.int IntKind.u8 0, Value.int IntKind.u8 0, Value.int IntKind.u8 0, Value.int IntKind.u8 0, Value.int IntKind.u8 0, Value.int IntKind.u8 0, Value.int IntKind.u8 0, Value.int IntKind.u8 0, Value.int IntKind.u8 0, Value.int IntKind.u8 0, Value.int IntKind.u8 0, Value.int IntKind.u8 0, Value.int IntKind.u8 0, Value.int IntKind.u8 0, Value.int IntKind.u8 0, Value.int IntKind.u8 0, Value.int IntKind.u8 0, Value.int IntKind.u8 0, Value.int IntKind.u8 0, Value.int IntKind.u8 0, Value.int IntKind.u8 0, Value.int IntKind.u8 0, Value.int IntKind.u8 0, Value.int IntKind.u8 0, Value.int IntKind.u8 0, Value.int IntKind.u8 0, Value.int IntKind.u8 0, Value.int IntKind.u8 0, Value.int IntKind.u8 0, Value.int IntKind.u8 0] := by kernel_rfl
      have HZ := hid hz
      clear hz
      obtain ⟨wo, rfl⟩ : ∃ wo : World, wo = wr := ⟨_, rfl⟩
      go_wp2
      go_loopw [11, 28] (fun _ i wr => ∃ j : Nat, j ≤ 16 ∧ i = .int .i64 j ∧ ORel w w1.heap.size w2.heap.size wo.heap.size l j wr) (fun _ i _ => 16 - (intOf i).toNat)
      case atStart => exact ⟨0, Nat.zero_le _, rfl, hbel.alloc hbel.size _, hR.alloc _, hI.alloc _, hS.alloc _, blk_cast (Blk.new wo _ _) HZ.out.symm⟩
      case round =>
        clear hbel hR hI hS HZ
        obtain ⟨j, hj, rfl, hR⟩ := hrel
        by_cases hlt2 : j < 16
        · have ha := (hR.2.2.1.cell j).trans (map_get U32 0 l j (by rw [HL.out]; omega))
          have hb := (hR.2.2.2.1.cell j).trans (map_get U32 0 (rnds l 10) j (by rw [length_rnds, HL.out]; omega))
          have hw1 : IntKind.i64.wrap (4 * (j : Int)) = 4 * (j : Int) := IntWalk.i64_in _ (by omega)
          have hw2 : IntKind.i64.wrap (4 * (j : Int) + 4) = 4 * (j : Int) + 4 := IntWalk.i64_in _ (by omega)
          have hsl := slice_arr (P := Tryd.prog) 130 5 64 Tryd.underlying130 size8 wo.heap.size .i64 .i64 (4 * (j : Int)) (4 * (j : Int) + 4) (4 * j) (4 * j + 4) (by omega) (by omega) (by omega) (by omega) (by omega)
          rw [show 4 * j + 4 - 4 * j = 4 by omega] at hsl
          have hjz : (0 : Int) ≤ j := by omega
          have hj8 : (j : Int) < 16 := by omega
          have hsum : (cSums l).getD j 0 = (rnds l 10).getD j 0 + l.getD j 0 := cSums_get l j (by rw [HL.out]; omega)
          obtain ⟨x, hx⟩ : ∃ x, x = l.getD j 0 := ⟨_, rfl⟩
          obtain ⟨y, hy⟩ : ∃ y, y = (rnds l 10).getD j 0 := ⟨_, rfl⟩
          rw [← hx] at ha hsum
          rw [← hy] at hb hsum
          have HSUM := hid hsum
          have hR' := hid hR
          clear hR hx hy hsum
          go_wp2
          refine region_tail 13 (by kernel_rfl) (by kernel_rfl) ?_
          simp only [List.take_succ_cons, List.take_zero, List.drop_succ_cons, List.drop_zero]
          repeat still_step
          refine wpStill_nil ?_
          go_wp2_with fail
          refine (putWordC_any wo.heap.size (4 * j) 4 (64 - 4 * j) _ _ _ _ hR'.out.2.2.2.2.drew (by omega) (by rw [size_rowOf]; omega)).mono ?_
          rintro e w' ⟨rfl, hgr, hnew⟩
          have hR2 := hR'.out.next HL.out hlt2 (by omega) (by omega) HSUM.out hgr hnew
          clear hR' hgr hnew ha hb hsl hw1 hw2
          go_wp2
          go_roundw
          case rel => exact ⟨j + 1, by omega, by go_num, hR2⟩
          case measure => simp [intOf]; omega
        · rw [show j = 16 by omega] at hR
          have hd2 : decide ((j : Int) < 16) = false := by simp; omega
          obtain ⟨hbel, hR, hI, hS, hO⟩ := hR
          have ho : rowOf U8 0 64 (outBytes ((cSums l).take 16)) = ((outBytes (cSums l)).map U8).toArray := by
            rw [List.take_of_length_le (by rw [length_cSums, HL.out]; omega)]
            exact rowOf_full _ _ _ _ (by rw [length_outBytes, length_cSums, HL.out])
          rw [ho] at hO
          have hol : (outBytes (cSums l)).length = 64 := by rw [length_outBytes, length_cSums, HL.out]
          have HOL := hid hol
          clear ho hol
          go_wp2_with (first
            | (refine wpList_load_blk rfl 130 (.tmp 10) rfl wo.heap.size rfl 130 _ _ hO Tryd.underlying130 rfl (size26 _ HOL.out) ?_)
            | (refine wpList_store_blk rfl 130 (.tmp 6) (.tmp 46) rfl (w.heap.size + 1 + 1) _ rfl rfl 130 _ hR (size26 _ HOL.out) (by rw [size_map _ _ _ HOL.out]; rfl) (oneCell_map _ (fun _ => rfl) _) ?_
               intro wz hbz hgz
               have hbelz := below_grown hbel hgz hbel.size (by omega)))
          exact bodyPost_ret (results_cell_row rfl _ _ (w.heap.size + 1 + 1) 130 _ (0, 0) _ rfl hbz Tryd.underlying130 rfl (size26 _ HOL.out)) rfl ⟨by rw [HOUT.out], hbelz⟩
end Go.Proofs.YtgblhjmnenmlkaaDoor
namespace Go.Proofs.YtgblhjmnenmlkaaDoor
open Go.RowKit
attribute [local go_sem] xor_n8 add_n32 add_n32' wrap_n32

/-- The bytes of s, the first m of them with the key stream. -/
def cPart (key : List UInt8) (ctr : UInt32) (nonce s : List UInt8) (m : Nat) : List UInt8 := s.mapIdx fun i b => if i < m then b ^^^ (cBlock key (ctr + UInt32.ofNat (i / 64)) nonce).getD (i % 64) 0 else b
theorem length_cPart (key : List UInt8) (ctr : UInt32) (nonce s : List UInt8) (m : Nat) : (cPart key ctr nonce s m).length = s.length := by simp [cPart]
theorem cPart_zero (key : List UInt8) (ctr : UInt32) (nonce s : List UInt8) : cPart key ctr nonce s 0 = s := by
  apply List.ext_getElem?; intro i; simp [cPart]
theorem cPart_all (key : List UInt8) (ctr : UInt32) (nonce s : List UInt8) (m : Nat) (h : s.length ≤ m) : cPart key ctr nonce s m = cXor key ctr nonce s := by
  apply List.ext_getElem?
  intro i
  by_cases hi : i < s.length
  · rw [get_cXor _ _ _ _ i hi]; simp [cPart, hi, show i < m by omega]
  · rw [List.getElem?_eq_none (by rw [length_cPart]; omega), List.getElem?_eq_none (by rw [length_cXor]; omega)]
theorem cPart_getD (key : List UInt8) (ctr : UInt32) (nonce s : List UInt8) (m : Nat) (h : m < s.length) : (cPart key ctr nonce s m).getD m 0 = s.getD m 0 := by
  simp [cPart, List.getD_eq_getElem?_getD, h]
theorem cPart_succ (key : List UInt8) (ctr : UInt32) (nonce s : List UInt8) (m : Nat) (h : m < s.length) :
    (cPart key ctr nonce s m).set m (s.getD m 0 ^^^ (cBlock key (ctr + UInt32.ofNat (m / 64)) nonce).getD (m % 64) 0) = cPart key ctr nonce s (m + 1) := by
  apply List.ext_getElem?
  intro i
  rw [List.getElem?_set, length_cPart]
  by_cases hi : i < s.length
  · by_cases e : m = i
    · subst e
      simp [cPart, h, List.getD_eq_getElem?_getD]
    · rw [if_neg e]
      simp only [cPart, List.getElem?_mapIdx, List.getElem?_eq_getElem hi, Option.map_some]
      by_cases h2 : i < m
      · rw [if_pos h2, if_pos (by omega)]
      · rw [if_neg h2, if_neg (by omega)]
  · rw [if_neg (by omega)]
    rw [List.getElem?_eq_none (by rw [length_cPart]; omega), List.getElem?_eq_none (by rw [length_cPart]; omega)]

def XRel (w : World) (g : Nat) (key nonce s : List UInt8) (ctr : UInt32) (m : Nat) (wr : World) : Prop :=
  Below w.heap.size w wr ∧ QAt wr ∧ Blk wr w.heap.size 22 (key.map U8).toArray ∧ Blk wr (w.heap.size + 1) 34 (nonce.map U8).toArray ∧ RBytes wr g (cPart key ctr nonce s m)
def XIn (w : World) (g gB : Nat) (key nonce s : List UInt8) (ctr : UInt32) (B : List UInt8) (m : Nat) (wr : World) : Prop := XRel w g key nonce s ctr m wr ∧ Blk wr gB 130 (B.map U8).toArray
theorem XIn.next {w wr : World} {g gB k j : Nat} {key nonce s : List UInt8} {ctr : UInt32} {B : List UInt8} (h : XIn w g gB key nonce s ctr B (64 * k + j) wr) (hm : 64 * k + j < s.length) (hg : w.heap.size + 2 ≤ g ∧ g < gB) (hB : B = cBlock key (ctr + UInt32.ofNat k) nonce) (hj : j < 64) (hq : 21 < g) :
    XIn w g gB key nonce s ctr B (64 * k + (j + 1)) (wr.setCell ⟨g, 64 * k + j, none⟩ (U8 (s.getD (64 * k + j) 0 ^^^ B.getD j 0))).drew := by
  obtain ⟨⟨h0, hQ, h1, h2, h3⟩, h4⟩ := h
  refine ⟨⟨(h0.setCell (by show _ ≤ g; omega) _).drew, fun i j hi hj => ?_, (h1.far (by show _ ≠ g; omega) _).drew, (h2.far (by show _ ≠ g; omega) _).drew, ?_⟩, (h4.far (by show _ ≠ g; omega) _).drew⟩
  · exact (World.cell?_setCell_other _ _ _ _ (fun e => by injection e with e; have e' : g = 21 := e; omega)).trans (hQ i j hi hj)
  · have := h3.set_ (64 * k + j) (by rw [length_cPart]; exact hm) (s.getD (64 * k + j) 0 ^^^ B.getD j 0)
    rw [hB] at this ⊢
    have e := cPart_succ key ctr nonce s (64 * k + j) hm
    rw [show (64 * k + j) / 64 = k by omega, show (64 * k + j) % 64 = j by omega] at e
    rw [e] at this
    exact this
set_option maxHeartbeats 1000000 in
set_option maxRecDepth 100000 in
theorem cxor_any (key nonce : List UInt8) (ctr : UInt32) (s : ByteArray) (w : World) (hk : key.length = 32) (hn : nonce.length = 12) (hs : s.size ≤ 1000000) (hQ : QAt w) :
    Calls Tryd.prog 62 #[.agg (key.map U8).toArray, U32 ctr, .agg (nonce.map U8).toArray, .string s] w fun e w' => e = .returned (.string ⟨(cXor key ctr nonce s.data.toList).toArray⟩) ∧ Below w.heap.size w w' := by
  obtain ⟨w0, hw0, hbel0, hbK, hbN, hsz⟩ : ∃ w0 : World, w0 = (w.alloc (.cells (key.map U8).toArray 22)).alloc (.cells (nonce.map U8).toArray 34) ∧ Below w.heap.size w w0 ∧ Blk w0 w.heap.size 22 (key.map U8).toArray ∧ Blk w0 (w.heap.size + 1) 34 (nonce.map U8).toArray ∧ w0.heap.size = w.heap.size + 2 :=
    ⟨_, rfl, ((Below.refl _ _).alloc (Nat.le_refl _) _).alloc (by simp) _, (Blk.new w _ _).alloc _, by simpa using Blk.new (w.alloc (.cells (key.map U8).toArray 22)) 34 (nonce.map U8).toArray, by simp⟩
  have hsz1 : w.heap.size + 2 ≤ w0.heap.size := by omega
  clear hsz
  obtain ⟨cap, W, hrun, hby, hfz, hbW, hltW, hcap⟩ := bytes_alloc (P := Tryd.prog) w0 9 23 5 s Tryd.underlying9 Tryd.underlying23 Tryd.underlying5
  have HR := hid (show (convert 9 23 (.string s)).run Tryd.prog ((w.alloc (.cells (key.map U8).toArray 22)).alloc (.cells (nonce.map U8).toArray 34)) = .ok (.slice (some ⟨w0.heap.size, 0, none⟩) s.size cap) W by rw [← hw0]; exact hrun)
  have hR0 : XRel w w0.heap.size key nonce s.data.toList ctr 0 W := by
    have hbel : Below w.heap.size w W := hbel0.trans (hbW.mono (by omega))
    exact ⟨hbel, hQ.below hbel hQ.lt, hbK.below hbW (by omega), hbN.below hbW (by omega), by rw [cPart_zero]; exact ⟨hby, hfz, hltW⟩⟩
  have hkl := hid hk
  have hnl := hid hn
  clear hk hn hw0 hrun hby hfz hbW hbK hbN hbel0
  have hsl : s.data.toList.length = s.size := rfl
  have HSL := hid hsl
  have HQ := hid hQ
  clear hsl hQ
  go_enter Tryd.func62, Tryd.ntmps62
  go_wp2_with (refine wpList_convert_run _ rfl 9 23 (.tmp 14) rfl _ rfl _ _ HR.out ?_)
  clear HR
  go_loopw [1, 10] (fun c i wr => ∃ k : Nat, 64 * k < s.size + 64 ∧ i = .int .i64 (64 * (k : Int)) ∧ c = U32 (ctr + UInt32.ofNat k) ∧ XRel w w0.heap.size key nonce s.data.toList ctr (64 * k) wr) (fun _ i _ => s.size + 64 - (intOf i).toNat)
  case atStart => exact ⟨0, by omega, rfl, by simp, hR0⟩
  case round =>
    clear hR0
    obtain ⟨k, hk, rfl, rfl, hR⟩ := hrel
    by_cases hlt : 64 * k < s.size
    · obtain ⟨n, hn, hn64, hnle, hor⟩ : ∃ n : Nat, (if (s.size : Int) < 64 * (k : Int) + 64 then (s.size : Int) else 64 * (k : Int) + 64) = 64 * (k : Int) + (n : Int) ∧ n ≤ 64 ∧ 64 * k + n ≤ s.size ∧ (n = 64 ∨ 64 * k + n = s.size) := ⟨min 64 (s.size - 64 * k), by split <;> omega, by omega, by omega, by omega⟩
      have hbl : 64 * (k : Int) + (n : Int) ≤ s.size := by omega
      have hsl := slice_sl (P := Tryd.prog) 23 5 Tryd.underlying23 size8 w0.heap.size 0 s.size cap .i64 .i64 (64 * (k : Int)) (64 * (k : Int) + (n : Int)) (64 * k) (64 * k + n) (by omega) (by omega) (by omega) (by omega) (by omega)
      rw [show 64 * k + n - 64 * k = n by omega, Nat.zero_add] at hsl
      have hd : decide (64 * (k : Int) < (s.size : Int)) = true := by simp; omega
      obtain ⟨hbel, hQ, hbK, hbN, hRB⟩ := hR
      go_wp2_with (first
        | (refine wpList_load_blk rfl 22 (.tmp 4) rfl w.heap.size rfl 22 _ _ hbK Tryd.underlying22 rfl (size22 _ hkl.out) ?_)
        | (refine wpList_load_blk rfl 34 (.tmp 6) rfl (w.heap.size + 1) rfl 34 _ _ hbN Tryd.underlying34 rfl (size24 _ hnl.out) ?_))
      refine (cblock_any key nonce (ctr + UInt32.ofNat k) wr hkl.out hnl.out hQ).mono ?_
      rintro e w1 ⟨rfl, hb1⟩
      have hbel1 := hbel.trans (hb1.mono hbel.size)
      have hQ1 := hQ.below hb1 hQ.lt
      have hbK1 := hbK.below hb1 hbK.lt
      have hbN1 := hbN.below hb1 hbN.lt
      have hRB1 := hRB.below hb1 hRB.2.2 (Nat.le_refl _)
      have hgl := hRB1.2.2
      have hkl1 := hbK1.lt
      have hnl1 := hbN1.lt
      have hQ2 : Hid (∀ w2, w1.grownBy w2 (some w1.heap.size) → QAt w2) := hid fun w2 hg i j hi hj => (World.cell?_of_block (w := w1) (a := ⟨21, 4 * i + j, none⟩) (hg.block _ hQ1.lt (fun e => by injection e with e; have := hQ1.lt; have e' : 21 = w1.heap.size := e; omega))).trans (hQ1 i j hi hj)
      clear hb1 hbel hQ hbK hbN hRB
      obtain ⟨B, hB⟩ : ∃ B, B = cBlock key (ctr + UInt32.ofNat k) nonce := ⟨_, rfl⟩
      have hBl : B.length = 64 := by rw [hB, length_cBlock]
      rw [← hB]
      have HB := hid hB
      have HBL := hid hBl
      clear hB hBl
      go_wp2_with (refine wpList_store_blk rfl 130 (.tmp 11) (.tmp 25) rfl w1.heap.size _ rfl rfl 130 _ (Blk.new w1 130 _) (size26 _ HBL.out) (by rw [size_map _ _ _ HBL.out]; rfl) (oneCell_map _ (fun _ => rfl) _) ?_
                   intro w2 hBB hg2
                   have hs2 := hg2.size
                   simp only [World.size_alloc] at hs2
                   have hbel2 := below_grown (hbel1.alloc hbel1.size _) hg2 (by simp; omega) hbel1.size
                   have hbK2 := (hbK1.alloc _).gro hg2 (by omega)
                   have hbN2 := (hbN1.alloc _).gro hg2 (by omega)
                   have hRB2 := (hRB1.alloc _).grown hg2 (fun e => by injection e with e; omega)
                   have hQ3 := hQ2.out w2 (grown_trans (World.grownBy_alloc w1 _ _) hg2)
                   have hblt : w0.heap.size < w1.heap.size := hgl
                   clear hg2)
      clear hsl hn
      have hB0 : XIn w w0.heap.size w1.heap.size key nonce s.data.toList ctr B (64 * k + 0) w2 := ⟨⟨hbel2, hQ3, hbK2, hbN2, hRB2⟩, hBB⟩
      clear hbel2 hQ2 hQ3 hbK2 hbN2 hRB2 hBB hQ1 hgl hkl1 hnl1
      obtain ⟨wo, rfl⟩ : ∃ wo : World, wo = w2 := ⟨_, rfl⟩
      go_loopw [13, 38] (fun _ i wr => ∃ j : Nat, j ≤ n ∧ i = .int .i64 j ∧ XIn w w0.heap.size w1.heap.size key nonce s.data.toList ctr B (64 * k + j) wr) (fun _ i _ => n - (intOf i).toNat)
      case atStart => exact ⟨0, Nat.zero_le _, rfl, hB0⟩
      case round =>
        clear hB0
        obtain ⟨j, hj, rfl, hR⟩ := hrel
        by_cases hlt2 : j < n
        · have hd2 : decide ((j : Int) < (n : Int)) = true := by simp; omega
          have hc1 := hR.1.2.2.2.2.cell (64 * k + j) (by rw [length_cPart, HSL.out]; omega)
          rw [cPart_getD _ _ _ _ _ (by rw [HSL.out]; omega)] at hc1
          have hf1 := hR.1.2.2.2.2.2.1 (64 * k + j) (by rw [length_cPart, HSL.out]; omega)
          have hc2 := (hR.2.cell j).trans (map_get U8 0 B j (by rw [HBL.out]; omega))
          have hnx := hR.next (by rw [HSL.out]; omega) ⟨by omega, hblt⟩ HB.out (by omega) (by have := HQ.out.lt; omega)
          obtain ⟨x, hx⟩ : ∃ x, x = s.data.toList.getD (64 * k + j) 0 := ⟨_, rfl⟩
          obtain ⟨y, hy⟩ : ∃ y, y = B.getD j 0 := ⟨_, rfl⟩
          rw [← hx] at hc1 hnx
          rw [← hy] at hc2 hnx
          have HNX := hid hnx
          have hjz : (0 : Int) ≤ j := by omega
          have hj8 : (j : Int) < 64 := by omega
          have hjn : (j : Int) < n := by omega
          clear hx hy hR hnx
          go_wp2
          go_region
          go_wp2
          go_roundw
          case rel => exact ⟨j + 1, by omega, by go_num, HNX.out⟩
          case measure => simp [intOf]; omega
        · rw [show j = n by omega] at hR
          have hd2 : decide ((j : Int) < (n : Int)) = false := by simp; omega
          have hL : cPart key ctr nonce s.data.toList (64 * k + n) = cPart key ctr nonce s.data.toList (64 * (k + 1)) := by
            rcases hor with h | h
            · rw [h]; rfl
            · rw [cPart_all _ _ _ _ _ (by rw [HSL.out]; omega), cPart_all _ _ _ _ _ (by rw [HSL.out]; omega)]
          have hR2 := hR.1
          unfold XRel at hR2
          rw [hL] at hR2
          have hcn : ctr + UInt32.ofNat k + 1 = ctr + UInt32.ofNat (k + 1) := by rw [UInt32.ofNat_add, UInt32.add_assoc]; rfl
          have HCN := hid hcn
          clear hR hL hcn
          go_wp2
          go_roundw
          case rel => exact ⟨k + 1, by omega, by go_num, by rw [← HCN.out]; rfl, hR2⟩
          case measure => simp [intOf]; omega
    · have hd : decide (64 * (k : Int) < (s.size : Int)) = false := by simp; omega
      obtain ⟨hbel, _, _, _, hRB⟩ := hR
      rw [cPart_all _ _ _ _ _ (by rw [HSL.out]; omega)] at hRB
      have hLn : (cXor key ctr nonce s.data.toList).length = s.size := by rw [length_cXor, HSL.out]
      have HLN := hid hLn
      clear hLn
      go_wp2_with (refine wpList_string_of _ rfl 23 9 5 (.tmp 51) rfl Tryd.underlying23 Tryd.underlying5 Tryd.underlying9 w0.heap.size 0 s.size cap (cXor key ctr nonce s.data.toList) rfl HLN.out hRB.1 ?_)
      go_ret
      exact ⟨rfl, hbel⟩
end Go.Proofs.YtgblhjmnenmlkaaDoor
namespace Go.Proofs.YtgblhjmnenmlkaaDoor
open Go.RowKit

theorem rotl32_bv (x : UInt32) (n : Nat) (h1 : 1 ≤ n) (h : n < 32) : (rotl32 x n).toBitVec = x.toBitVec.rotateLeft n := by
  unfold rotl32
  apply BitVec.eq_of_getLsbD_eq
  intro i hi
  rw [BitVec.getLsbD_rotateLeft]
  simp only [UInt32.toBitVec_or, UInt32.toBitVec_shiftLeft, UInt32.toBitVec_shiftRight, UInt32.toBitVec_ofNat', BitVec.getLsbD_or]
  have e1 : (BitVec.ofNat 32 n % 32).toNat = n := by simp [BitVec.toNat_umod, Nat.mod_eq_of_lt (show n < 4294967296 by omega), Nat.mod_eq_of_lt h]
  have e2 : (BitVec.ofNat 32 (32 - n) % 32).toNat = 32 - n := by simp [BitVec.toNat_umod, Nat.mod_eq_of_lt (show 32 - n < 4294967296 by omega), Nat.mod_eq_of_lt (show 32 - n < 32 by omega)]
  rw [BitVec.shiftLeft_eq', BitVec.ushiftRight_eq', e1, e2, BitVec.getLsbD_shiftLeft, BitVec.getLsbD_ushiftRight, Nat.mod_eq_of_lt h]
  by_cases hlt : i < n
  · simp [hlt, hi]
  · simp [hlt, hi, BitVec.getLsbD_of_ge x.toBitVec (32 - n + i) (by omega)]
theorem rotl32_step (x : UInt32) (n : Nat) (h1 : 1 ≤ n) (h : n + 1 < 32) : rotl32 (rotl32 x n) 1 = rotl32 x (n + 1) := by
  apply UInt32.toBitVec_inj.1
  rw [rotl32_bv _ 1 (by omega) (by omega), rotl32_bv _ n h1 (by omega), rotl32_bv _ (n + 1) (by omega) h]
  apply BitVec.eq_of_getLsbD_eq
  intro i hi
  simp only [BitVec.getLsbD_rotateLeft, Nat.mod_eq_of_lt (show 1 < 32 by omega), Nat.mod_eq_of_lt (show n < 32 by omega), Nat.mod_eq_of_lt h]
  by_cases h0 : i < 1
  · have h3 : ¬ 32 - 1 + i < n := by omega
    have h4 : i < n + 1 := by omega
    have h5 : 32 - 1 + i < 32 := by omega
    simp only [h0, h3, h4, h5, decide_true, decide_false, cond_true, cond_false, Bool.true_and]
    congr 1; omega
  · by_cases h2 : i - 1 < n
    · have h4 : i < n + 1 := by omega
      simp only [h0, h2, h4, hi, decide_true, decide_false, cond_true, cond_false, Bool.true_and]
      congr 1; omega
    · have h4 : ¬ i < n + 1 := by omega
      have h5 : i - 1 < 32 := by omega
      simp only [h0, h2, h4, h5, hi, decide_true, decide_false, cond_false, Bool.true_and]
      congr 1; omega
def rotI (x : UInt32) : Nat → UInt32
  | 0 => x
  | n + 1 => rotl32 (rotI x n) 1
theorem rotI_eq (x : UInt32) (n : Nat) (h1 : 1 ≤ n) (h : n < 32) : rotI x n = rotl32 x n := by
  induction n with
  | zero => omega
  | succ n ih =>
    by_cases h0 : n = 0
    · subst h0; rfl
    · rw [rotI, ih (by omega) (by omega), rotl32_step x n (by omega) h]
theorem rot1_lo (x : UInt32) (h : n32 x * 2 < 4294967296) : n32 x * 2 = n32 (rotl32 x 1) := by
  have e : (rotl32 x 1).toNat = x.toNat <<< 1 % 4294967296 ||| x.toNat >>> 31 := rfl
  unfold n32 at h ⊢
  rw [e, Nat.shiftLeft_eq, Nat.shiftRight_eq_div_pow, show x.toNat / 2 ^ 31 = 0 by omega, Nat.or_zero]
  omega
theorem rot1_hi (x : UInt32) (h : ¬ n32 x * 2 < 4294967296) : n32 x * 2 - 4294967296 + 1 = n32 (rotl32 x 1) := by
  have e : (rotl32 x 1).toNat = x.toNat <<< 1 % 4294967296 ||| x.toNat >>> 31 := rfl
  have hlt := x.toNat_lt
  unfold n32 at h ⊢
  have e2 : x.toNat * 2 ^ 1 % 4294967296 = (x.toNat - 2147483648) <<< 1 := by rw [Nat.shiftLeft_eq]; omega
  rw [e, Nat.shiftLeft_eq, Nat.shiftRight_eq_div_pow, show x.toNat / 2 ^ 31 = 1 by omega, e2, ← Nat.shiftLeft_add_eq_or_of_lt (by omega : 1 < 2 ^ 1), Nat.shiftLeft_eq]
  omega
set_option maxHeartbeats 400000 in
theorem left_any (x : UInt32) (n : Nat) (w : World) (h : n < 1000) :
    Calls Tryd.prog 123 #[.int .u64 (n32 x), .int .i64 (n : Int)] w fun e w' => e = .returned (.int .u64 (n32 (rotI x n))) ∧ w = w' := by
  go_enter Tryd.func123, Tryd.ntmps123
  go_wp2
  go_loop [0, 5] (fun v i => ∃ k : Nat, k ≤ n ∧ i = .int .i64 k ∧ v = .int .u64 (n32 (rotI x k))) (fun _ i => n - (intOf i).toNat)
  case atStart => exact ⟨0, Nat.zero_le _, rfl, rfl⟩
  case round =>
    obtain ⟨k, hk, rfl, rfl⟩ := hrel
    by_cases hlt : k < n
    · obtain ⟨y, hy⟩ : ∃ y, y = rotI x k := ⟨_, rfl⟩
      have hn : rotI x (k + 1) = rotl32 y 1 := by rw [rotI, hy]
      rw [← hy]
      have HN := hid hn
      clear hn hy
      have h0 := n32_nonneg y
      have h1 := n32_lt y
      have hw : IntKind.u64.wrap (n32 y * 2) = n32 y * 2 := by rw [wrap_u64]; omega
      by_cases hc : n32 y * 2 < 4294967296
      · have hd : decide (4294967296 ≤ n32 y * 2) = false := by simp; omega
        have hr := hid (rot1_lo y hc)
        go_wp2
        go_round
        case rel => exact ⟨k + 1, by omega, by go_num, by rw [HN.out, ← hr.out]⟩
        case measure => simp [intOf]; omega
      · have hd : decide (4294967296 ≤ n32 y * 2) = true := by simp; omega
        have hw2 : IntKind.u64.wrap (n32 y * 2 - 4294967296) = n32 y * 2 - 4294967296 := by rw [wrap_u64]; omega
        have hw3 : IntKind.u64.wrap (n32 y * 2 - 4294967296 + 1) = n32 y * 2 - 4294967296 + 1 := by rw [wrap_u64]; omega
        have hr := hid (rot1_hi y hc)
        go_wp2
        go_round
        case rel => exact ⟨k + 1, by omega, by go_num, by rw [HN.out, ← hr.out]⟩
        case measure => simp [intOf]; omega
    · go_wp2
      obtain rfl : k = n := by omega
      go_ret
      exact ⟨rfl, rfl⟩
end Go.Proofs.YtgblhjmnenmlkaaDoor
namespace Go.Proofs.YtgblhjmnenmlkaaDoor
open Go.RowKit

/-- The slice v is the call's own and holds f of the list. -/
def Own {α : Type} (w : World) (base : Nat) (t : TypeId) (f : α → Value) (v : Value) (l : List α) : Prop := w.ownsRow base t 1 v l.length (l.map f)
section
variable {α : Type} {w w' : World} {base : Nat} {t : TypeId} {f : α → Value} {v : Value} {l : List α}
theorem Own.nil (w : World) (base : Nat) (t : TypeId) (f : α → Value) : Own w base t f (.slice none 0 0) [] := World.ownsRow_nil _ _ _ _
theorem Own.mono (h : Own w base t f v l) {b : Nat} (hb : b ≤ base) : Own w b t f v l := by
  refine ⟨h.1, ?_⟩
  rcases h.2 with hn | ⟨g, cap, cur, e, hbg, rest⟩
  · exact .inl hn
  · exact .inr ⟨g, cap, cur, e, Nat.le_trans hb hbg, rest⟩
theorem Own.form (h : Own w base t f v l) : (v = .slice none 0 0 ∧ l = []) ∨ ∃ g cap, v = .slice (some ⟨g, 0, none⟩) l.length cap ∧ base ≤ g ∧ g < w.heap.size ∧ l.length ≤ cap ∧ cap ≤ maxLen := by
  rcases h.2 with ⟨rfl, hn⟩ | ⟨g, cap, cur, rfl, hbg, hh, hc, hm, _⟩
  · exact .inl ⟨rfl, List.eq_nil_of_length_eq_zero hn⟩
  · exact .inr ⟨g, cap, rfl, hbg, (Array.getElem?_eq_some_iff.1 hh).1, hc, hm⟩
/-- A slice value: its address may be nil, where it is empty. -/
theorem Own.slice (h : Own w base t f v l) : ∃ A cap, v = .slice A l.length cap := by
  rcases h.form with ⟨rfl, rfl⟩ | ⟨g, cap, rfl, _⟩
  · exact ⟨_, _, rfl⟩
  · exact ⟨_, _, rfl⟩
theorem Own.cell {g cap : Nat} (h : Own w base t f (.slice (some ⟨g, 0, none⟩) l.length cap) l) (z : α) (j : Nat) (hj : j < l.length) : w.cell? ⟨g, j, none⟩ = some (f (l.getD j z)) := by
  have := h.cells (g := g) rfl j (f (l.getD j z)) (by simp [List.getD_eq_getElem?_getD, List.getElem?_eq_getElem hj])
  rwa [addr_add] at this
theorem Own.frozen {g cap : Nat} (h : Own w base t f (.slice (some ⟨g, 0, none⟩) l.length cap) l) (j : Nat) : w.frozen? ⟨g, j, none⟩ = false := World.ownsRow.frozenAt h j
theorem Own.lt {g n cap : Nat} (h : Own w base t f (.slice (some ⟨g, 0, none⟩) n cap) l) : base ≤ g ∧ g < w.heap.size := World.ownsRow.lt h g rfl
theorem Own.lt_ (h : Own w base t f v l) : ∀ k, v.ownBlock = some k → base ≤ k := fun k hk => (World.ownsRow.lt h k hk).1
theorem Own.below_of (h : Own w base t f v l) (hg : w.grownBy w' v.ownBlock) (hb : base ≤ w.heap.size) : Below base w w' := (Below.refl _ _).grown hg hb h.lt_
theorem Own.drew (h : Own w base t f v l) : Own w.drew base t f v l := h
theorem Own.drewN (h : Own w base t f v l) (n : Nat) : Own (w.drewN n) base t f v l := h
theorem Own.alloc (h : Own w base t f v l) (o : Obj) : Own (w.alloc o) base t f v l := World.ownsRow.alloc h o
theorem Own.below {B : Nat} (h : Own w base t f v l) (hb : Below B w w') (hB : w.heap.size ≤ B) : Own w' base t f v l := by
  refine ⟨h.1, ?_⟩
  rcases h.2 with hn | ⟨g, cap, cur, e, hbg, hh, rest⟩
  · exact .inl hn
  · exact .inr ⟨g, cap, cur, e, hbg, (hb.block g (Nat.lt_of_lt_of_le (Array.getElem?_eq_some_iff.1 hh).1 hB)).trans hh, rest⟩
theorem Own.grown {r : Option Nat} (h : Own w base t f v l) (hg : w.grownBy w' r) (hne : v.ownBlock = none ∨ v.ownBlock ≠ r) : Own w' base t f v l := World.ownsRow.kept h hg hne
theorem Own.cast {l' : List α} (h : Own w base t f v l) (e : l = l') : Own w base t f v l' := e ▸ h
/-- One element is stored. -/
theorem Own.set_ {g n cap : Nat} (h : Own w base t f (.slice (some ⟨g, 0, none⟩) n cap) l) (i : Nat) (x : α) : Own (w.setCell ⟨g, i, none⟩ (f x)) base t f (.slice (some ⟨g, 0, none⟩) n cap) (l.set i x) := by
  have hn : n = l.length := by
    rcases h.form with ⟨e, _⟩ | ⟨_, _, e, _⟩
    · cases e
    · injection e
  subst hn
  have := World.ownsRow.stored h i (f x)
  unfold Own
  rw [List.length_set, List.map_set]
  exact this.1
/-- The first k elements of a row are a row. -/
theorem Own.take {g n cap k : Nat} (h : Own w base t f (.slice (some ⟨g, 0, none⟩) n cap) l) (hk : k ≤ l.length) : Own w base t f (.slice (some ⟨g, 0, none⟩) k cap) (l.take k) := by
  rcases h.2 with ⟨e, _⟩ | ⟨g', cap', cur, e, hbg, hh, hc, hm, hs, ht⟩
  · cases e
  · injection e with e1 e2 e3
    injection e1 with e1
    injection e1 with e1
    subst e1; subst e3; subst e2
    refine ⟨by simp, .inr ⟨g, cap, cur, by rw [List.length_take, Nat.min_eq_left hk], hbg, hh, by rw [List.length_take]; omega, hm, hs, ?_⟩⟩
    rw [List.map_take, ← ht, List.take_take, List.length_take]
    congr 1; omega
end
theorem Own.apart {α β : Type} {w : World} {b b' t t' : Nat} {f : α → Value} {f' : β → Value} {v v' : Value} {l : List α} {l' : List β} (h : Own w b t f v l) (h' : Own w b' t' f' v' l') (hne : t ≠ t') : v.ownBlock = none ∨ v.ownBlock ≠ v'.ownBlock := by
  rcases h.2 with ⟨rfl, _⟩ | ⟨g, cap, cur, rfl, _, hh, _⟩
  · exact .inl rfl
  · refine .inr (fun e => ?_)
    rcases h'.2 with ⟨rfl, _⟩ | ⟨g', cap', cur', rfl, _, hh', _⟩
    · simp [Value.ownBlock] at e
    · simp only [Value.ownBlock, Option.some.injEq] at e
      subst e
      rw [hh] at hh'
      injection hh' with hh'
      injection hh' with _ ht
      exact hne ht
theorem Own.bytes {w : World} {base t g n cap : Nat} {l : List UInt8} (h : Own w base t U8 (.slice (some ⟨g, 0, none⟩) n cap) l) : Bytes w g 0 l := fun j hj => by
  have := h.cells (g := g) rfl j (U8 (l[j])) (by simp [hj])
  rw [addr_add] at this
  rw [Nat.zero_add]
  exact this
/-- A new block of one literal's elements. -/
theorem Own.new {α : Type} (w : World) (base : Nat) (t : TypeId) (f : α → Value) (l : List α) (hb : base ≤ w.heap.size) (hm : l.length ≤ maxLen) : Own (w.alloc (.cells (l.map f).toArray t)) base t f (.slice (some ⟨w.heap.size, 0, none⟩) l.length l.length) l :=
  ⟨by simp, .inr ⟨w.heap.size, l.length, (l.map f).toArray, rfl, hb, heap_alloc_new w _, Nat.le_refl _, hm, by simp, by simp [List.take_of_length_le]⟩⟩
section
variable {P : Program} {α : Type}
/-- append(v, the elements that lie at b). -/
theorem step_append_lit {ops : Array Oper} {o : Oper} {a : Act} {w : World} {K : Act → World → Prop} {Q : Exit → Act → World → Prop} {E : Prop} (hgd : o.guard = none) (s x : Operand) (t : TypeId)
    (ho : o.op = .call { callee := .builtin .append, args := #[s, x], argTypes := #[t, t] })
    (base : Nat) (e : TypeId) (i : TypeInfo) (z : Value) (bytes : Nat) (f : α → Value) (hf : ∀ x, (f x).oneCell' = true) (ht : P.underlying t = some (.slice e)) (hi : P.info? e = some i) (hz : i.zero = some z)
    (hsize : i.size = 1) (hby : i.bytes = bytes) (hzs : z.cells.size = 1) (hb16 : bytes ≤ 16)
    (v : Value) (l m : List α) (n : Nat) (hn : m.length = n) (hs : a.eval s = v) (hown : Own w base e f v l)
    (b off c : Nat) (hx : a.eval x = .slice (some ⟨b, off, none⟩) n c) (hnews : ∀ j u, (m.map f)[j]? = some u → w.cell? ⟨b, off + j, none⟩ = some u)
    (hnm : l.length + n ≤ 1000000000000) (hbase : base ≤ w.heap.size)
    (h : ∀ v' w', Own w' base e f v' (l ++ m) → w.grownBy w' v.ownBlock → Below base w w' → K (a.put o.dst v') w') : if Region.wanted o (yielded ops a.tmps) = true then Oper.wp P o a w K Q else E := by
  subst hn
  have hw : Region.wanted o (yielded ops a.tmps) = true := by simp [Region.wanted, hgd]
  rw [if_pos hw]
  refine wp_append_own w s x t ho base e i z 1 bytes ht hi hz hsize hby hzs (by decide) v l.length (l.map f) hs hown ⟨b, off, none⟩ m.length c (m.map f) hx (by simp) (fun j u hu => ?_) (by intro x hx; simp at hx; obtain ⟨y, _, rfl⟩ := hx; exact hf y) (by unfold maxLen; omega) ?_ hbase ?_
  · have e : (⟨b, off, none⟩ : Addr).add j = ⟨b, off + j, none⟩ := by unfold Addr.add; split <;> simp_all
    rw [e]; exact hnews j u hu
  · have := Nat.mul_le_mul hnm hb16; omega
  · intro v' w' hown' hg _
    refine h v' w' (by unfold Own; rw [List.length_append, List.map_append]; exact hown') hg ((Below.refl _ _).grown hg hbase (fun k hk => ?_))
    exact (hown.lt_ k hk)
theorem wpList_append_lit {ops : Array Oper} {rest : List Oper} {o : Oper} {a : Act} {w : World} {Q : Exit → Act → World → Prop} (hgd : o.guard = none) (s x : Operand) (t : TypeId)
    (ho : o.op = .call { callee := .builtin .append, args := #[s, x], argTypes := #[t, t] })
    (base : Nat) (e : TypeId) (i : TypeInfo) (z : Value) (bytes : Nat) (f : α → Value) (hf : ∀ x, (f x).oneCell' = true) (ht : P.underlying t = some (.slice e)) (hi : P.info? e = some i) (hz : i.zero = some z)
    (hsize : i.size = 1) (hby : i.bytes = bytes) (hzs : z.cells.size = 1) (hb16 : bytes ≤ 16)
    (v : Value) (l m : List α) (n : Nat) (hn : m.length = n) (hs : a.eval s = v) (hown : Own w base e f v l)
    (b off c : Nat) (hx : a.eval x = .slice (some ⟨b, off, none⟩) n c) (hnews : ∀ j u, (m.map f)[j]? = some u → w.cell? ⟨b, off + j, none⟩ = some u)
    (hnm : l.length + n ≤ 1000000000000) (hbase : base ≤ w.heap.size)
    (h : ∀ v' w', Own w' base e f v' (l ++ m) → w.grownBy w' v.ownBlock → Below base w w' → wpList P ops Q rest (a.put o.dst v') w') : wpList P ops Q (o :: rest) a w :=
  wpList_plain hgd fun K hK => by
    have hw : Region.wanted o (yielded ops a.tmps) = true := by simp [Region.wanted, hgd]
    have := step_append_lit (P := P) (ops := ops) (w := w) (K := K) (Q := Q) (E := True) hgd s x t ho base e i z bytes f hf ht hi hz hsize hby hzs hb16 v l m n hn hs hown b off c hx hnews hnm hbase (fun v' w' h1 h2 h3 => hK _ _ (h v' w' h1 h2 h3))
    rwa [if_pos hw] at this
theorem new_lit (w : World) (t : TypeId) (cs : Array Value) (xs : List Value) (h : cs = xs.toArray) : ∀ j u, xs[j]? = some u → (w.alloc (.cells cs t)).cell? ⟨w.heap.size, 0 + j, none⟩ = some u := by
  subst h
  intro j u hu
  rw [(Blk.new w t _).cell]; simpa using hu
/-- append(v, news...), v and the news the call's own rows (or nil). -/
theorem run_append_rows (w : World) (base base2 : Nat) (t ty e : TypeId) (i : TypeInfo) (z : Value) (bytes : Nat) (f : α → Value) (hf : ∀ x, (f x).oneCell' = true) (ht : P.underlying t = some (.slice e)) (hi : P.info? e = some i) (hz : i.zero = some z)
    (hsize : i.size = 1) (hby : i.bytes = bytes) (hzs : z.cells.size = 1) (v u : Value) (l m : List α) (hv : Own w base e f v l) (hu : Own w base2 e f u m)
    (h63 : l.length + m.length ≤ 1000000) (hbytes : bytes ≤ 16) (hbase : base ≤ w.heap.size) :
    ∃ v' w', (Builtin.append_ #[t, t] ty #[v, u]).run P w = .ok v' w' ∧ Own w' base e f v' (l ++ m) ∧ w.grownBy w' v.ownBlock := by
  have hb1 : (l.length + m.length) * bytes ≤ 140737488355328 := by
    have := Nat.mul_le_mul h63 hbytes; omega
  rcases hu.form with ⟨rfl, rfl⟩ | ⟨g, cap, rfl, _, _, _, _⟩
  · refine ⟨v, w, ?_, by simpa using hv, grown_refl _ _⟩
    rcases hv.form with ⟨rfl, rfl⟩ | ⟨g, cap, rfl, _, _, hc, _⟩
    · simp [Builtin.append_, run_underlying ht, sizeOf, typeInfo, hi, Builtin.lenOf, Builtin.firstCells]
    · simp [Builtin.append_, run_underlying ht, sizeOf, typeInfo, hi, Builtin.lenOf, Builtin.firstCells, loadCells, hc, storeCells]
  · obtain ⟨v', w', h1, h2, h3, _⟩ := run_append_own (P := P) w base t ty e i z 1 bytes ht hi hz hsize hby hzs (by omega) v l.length (l.map f) hv ⟨g, 0, none⟩ m.length cap (m.map f) (by simp) (hu.cells rfl) (by intro x hx; simp at hx; obtain ⟨y, _, rfl⟩ := hx; exact hf y) (by unfold maxLen; omega) hb1 hbase
    exact ⟨v', w', h1, by unfold Own; rw [List.length_append, List.map_append]; exact h2, h3⟩
end
end Go.Proofs.YtgblhjmnenmlkaaDoor
namespace Go.Proofs.YtgblhjmnenmlkaaDoor
open Go.RowKit

/-- A word of 32 bits in a cell of 64. -/
abbrev W64 (x : UInt32) : Value := .int .u64 (n32 x)
theorem le4 (a b c d : UInt8) : n8 a + 256 * n8 b + 65536 * n8 c + 16777216 * n8 d = n32 (le32 [a, b, c, d] 4) := by
  have h1 := a.toNat_lt; have h2 := b.toNat_lt; have h3 := c.toNat_lt; have h4 := d.toNat_lt
  have e : (le32 [a, b, c, d] 4).toNat = (((0 ||| a.toNat <<< 0 % 4294967296) ||| b.toNat <<< 8 % 4294967296) ||| c.toNat <<< 16 % 4294967296) ||| d.toNat <<< 24 % 4294967296 := rfl
  have m1 : b.toNat <<< 8 % 4294967296 = b.toNat <<< 8 := by rw [Nat.shiftLeft_eq]; omega
  have m2 : c.toNat <<< 16 % 4294967296 = c.toNat <<< 16 := by rw [Nat.shiftLeft_eq]; omega
  have m3 : d.toNat <<< 24 % 4294967296 = d.toNat <<< 24 := by rw [Nat.shiftLeft_eq]; omega
  have o1 : a.toNat ||| b.toNat <<< 8 = b.toNat <<< 8 + a.toNat := by rw [Nat.or_comm, Nat.shiftLeft_add_eq_or_of_lt (show a.toNat < 2 ^ 8 by omega)]
  have o2 : (b.toNat <<< 8 + a.toNat) ||| c.toNat <<< 16 = c.toNat <<< 16 + (b.toNat <<< 8 + a.toNat) := by rw [Nat.or_comm, Nat.shiftLeft_add_eq_or_of_lt (show b.toNat <<< 8 + a.toNat < 2 ^ 16 by rw [Nat.shiftLeft_eq]; omega)]
  have o3 : (c.toNat <<< 16 + (b.toNat <<< 8 + a.toNat)) ||| d.toNat <<< 24 = d.toNat <<< 24 + (c.toNat <<< 16 + (b.toNat <<< 8 + a.toNat)) := by rw [Nat.or_comm, Nat.shiftLeft_add_eq_or_of_lt (show c.toNat <<< 16 + (b.toNat <<< 8 + a.toNat) < 2 ^ 24 by rw [Nat.shiftLeft_eq, Nat.shiftLeft_eq]; omega)]
  unfold n8 n32
  rw [e, Nat.zero_or, Nat.shiftLeft_zero, Nat.mod_eq_of_lt (show a.toNat < 4294967296 by omega), m1, m2, m3, o1, o2, o3, Nat.shiftLeft_eq, Nat.shiftLeft_eq, Nat.shiftLeft_eq]
  omega
theorem infoU64 : (Tryd.prog.info? 44).map (fun i => (i.zero, i.size, i.bytes)) = some (some (.int .u64 0), 1, 8) := by kernel_rfl
theorem four_of (l : List UInt8) (k : Nat) (h : k + 4 ≤ l.length) : (l.drop k).take 4 = [l.getD k 0, l.getD (k + 1) 0, l.getD (k + 2) 0, l.getD (k + 3) 0] := by
  rw [List.drop_eq_getElem_cons (by omega), List.drop_eq_getElem_cons (by omega), List.drop_eq_getElem_cons (by omega), List.drop_eq_getElem_cons (by omega)]
  simp only [List.take_succ_cons, List.take_zero, List.getD_eq_getElem?_getD, List.getElem?_eq_getElem (show k < l.length by omega), List.getElem?_eq_getElem (show k + 1 < l.length by omega), List.getElem?_eq_getElem (show k + 2 < l.length by omega), List.getElem?_eq_getElem (show k + 3 < l.length by omega), Option.getD_some]
theorem byte_at (s : ByteArray) (k : Nat) (h : k < s.size) : ((s[k].toNat : Nat) : Int) = n8 (s.data.toList.getD k 0) := by
  have h2 : k < s.data.toList.length := h
  rw [List.getD_eq_getElem?_getD, List.getElem?_eq_getElem h2]; rfl
set_option maxHeartbeats 1000000 in
set_option maxRecDepth 100000 in
theorem words_any (s : ByteArray) (n : Nat) (w : World) (hs : s.size = 4 * n) (hn : n ≤ 1000) :
    Calls Tryd.prog 112 #[.string s] w fun e w' => ∃ v, e = .returned v ∧ Own w' w.heap.size 44 W64 v (leWords s.data.toList n) ∧ Below w.heap.size w w' := by
  obtain ⟨i0, hi, hz0, hz1, hz2⟩ := info_parts infoU64
  have hsl : s.data.toList.length = s.size := rfl
  go_enter Tryd.func112, Tryd.ntmps112
  go_wp2
  go_loopw [3, 4] (fun V i wr => ∃ k : Nat, k ≤ n ∧ i = .int .i64 (4 * (k : Int)) ∧ Own wr w.heap.size 44 W64 V (leWords s.data.toList k) ∧ Below w.heap.size w wr) (fun _ i _ => 4 * n - (intOf i).toNat)
  case atStart => exact ⟨0, Nat.zero_le _, rfl, Own.new w _ _ W64 [] (Nat.le_refl _) (Nat.zero_le _), (Below.refl _ _).alloc (Nat.le_refl _) _⟩
  case round =>
    obtain ⟨k, hk, rfl, hown, hbel⟩ := hrel
    by_cases hlt : k < n
    · have hd : decide (4 * (k : Int) + 3 < (s.size : Int)) = true := by simp; omega
      have q0 : 4 * k < s.size := by omega
      have q1 : 4 * k + 1 < s.size := by omega
      have q2 : 4 * k + 2 < s.size := by omega
      have q3 : 4 * k + 3 < s.size := by omega
      have b0 := byte_at s (4 * k) q0
      have b1 := byte_at s (4 * k + 1) q1
      have b2 := byte_at s (4 * k + 2) q2
      have b3 := byte_at s (4 * k + 3) q3
      have hnx : leWords s.data.toList (k + 1) = leWords s.data.toList k ++ [le32 [s.data.toList.getD (4 * k) 0, s.data.toList.getD (4 * k + 1) 0, s.data.toList.getD (4 * k + 2) 0, s.data.toList.getD (4 * k + 3) 0] 4] := by
        rw [leWords_succ, four_of _ _ (by omega)]
      obtain ⟨x0, e0⟩ : ∃ x, x = s.data.toList.getD (4 * k) 0 := ⟨_, rfl⟩
      obtain ⟨x1, e1⟩ : ∃ x, x = s.data.toList.getD (4 * k + 1) 0 := ⟨_, rfl⟩
      obtain ⟨x2, e2⟩ : ∃ x, x = s.data.toList.getD (4 * k + 2) 0 := ⟨_, rfl⟩
      obtain ⟨x3, e3⟩ : ∃ x, x = s.data.toList.getD (4 * k + 3) 0 := ⟨_, rfl⟩
      rw [← e0] at b0 hnx
      rw [← e1] at b1 hnx
      rw [← e2] at b2 hnx
      rw [← e3] at b3 hnx
      have hle := hid (le4 x0 x1 x2 x3)
      have HNX := hid hnx
      have HSL := hid hsl
      have HSZ := hid hs
      have hLn := length_leWords s.data.toList k
      have HLN := hid hLn
      have hsb : s.size ≤ 1000000 := by omega
      have k1 : (4 * (k : Int)) < s.size := by omega
      have k2 : (4 * (k : Int)) + 1 < s.size := by omega
      have k3 : (4 * (k : Int)) + 2 < s.size := by omega
      have k4 : (4 * (k : Int)) + 3 < s.size := by omega
      have z0 : (0 : Int) ≤ 4 * (k : Int) := by omega
      have z1 : (0 : Int) ≤ 4 * (k : Int) + 1 := by omega
      have z2 : (0 : Int) ≤ 4 * (k : Int) + 2 := by omega
      have z3 : (0 : Int) ≤ 4 * (k : Int) + 3 := by omega
      have HV : Hid (∀ g0 g1 g2 g3, IntKind.u64.wrap (IntKind.u64.wrap (IntKind.u64.wrap (IntKind.u64.wrap ((s[(4 * (k : Int)).toNat]'g0).toNat : Int) + IntKind.u64.wrap (256 * IntKind.u64.wrap ((s[(4 * (k : Int) + 1).toNat]'g1).toNat : Int))) + IntKind.u64.wrap (65536 * IntKind.u64.wrap ((s[(4 * (k : Int) + 2).toNat]'g2).toNat : Int))) + IntKind.u64.wrap (16777216 * IntKind.u64.wrap ((s[(4 * (k : Int) + 3).toNat]'g3).toNat : Int))) = n8 x0 + 256 * n8 x1 + 65536 * n8 x2 + 16777216 * n8 x3) := by
        intro g0 g1 g2 g3
        have t0 : (4 * (k : Int)).toNat = 4 * k := by omega
        have t1 : (4 * (k : Int) + 1).toNat = 4 * k + 1 := by omega
        have t2 : (4 * (k : Int) + 2).toNat = 4 * k + 2 := by omega
        have t3 : (4 * (k : Int) + 3).toNat = 4 * k + 3 := by omega
        have n1 := n8_lt x1; have n2 := n8_lt x2; have n3 := n8_lt x3; have n0 := n8_lt x0
        have p1 := n8_nonneg x1; have p2 := n8_nonneg x2; have p3 := n8_nonneg x3; have p0 := n8_nonneg x0
        simp only [t0, t1, t2, t3, b0, b1, b2, b3, wrap_u64]
        omega
      have v1 : IntKind.i64.wrap (4 * (k : Int) + 1) = 4 * (k : Int) + 1 := IntWalk.i64_in _ (by omega)
      have v2 : IntKind.i64.wrap (4 * (k : Int) + 2) = 4 * (k : Int) + 2 := IntWalk.i64_in _ (by omega)
      have v3 : IntKind.i64.wrap (4 * (k : Int) + 3) = 4 * (k : Int) + 3 := IntWalk.i64_in _ (by omega)
      clear b0 b1 b2 b3
      clear e0 e1 e2 e3 hnx hs hsl hLn
      go_wp2
      have hle2 : W64 (le32 [x0, x1, x2, x3] 4) = .int .u64 (n8 x0 + 256 * n8 x1 + 65536 * n8 x2 + 16777216 * n8 x3) := by rw [hle.out]
      have HLE := hid hle2
      clear hle2
      -- region
      refine wp_region_held_drew (S := fun _ => True) (by kernel_rfl) trivial (fun hHeldw => ?_)
      refine wpAnyH_take (i := 0) (oi := _) (v := ?vw0) rfl (by kernel_rfl) (by kernel_rfl) (by kernel_rfl) (fun _ _ _ h => h) (Or.inl ⟨by rfl, ?hyw0⟩) hHeldw ?_
      case hyw0 => (intro w hSw; go_simp; rfl)
      simp only [Act.put]
      refine wpAnyH_take (i := 1) (oi := _) (v := ?vw1) rfl (by kernel_rfl) (by kernel_rfl) (by kernel_rfl) (fun _ _ _ h => h) (Or.inl ⟨by rfl, ?hyw1⟩) hHeldw ?_
      case hyw1 => (intro w hSw; go_simp; rfl)
      simp only [Act.put]
      refine wpAnyH_take (i := 2) (oi := _) (v := ?vw2) rfl (by kernel_rfl) (by kernel_rfl) (by kernel_rfl) (fun _ _ _ h => h) (Or.inl ⟨by rfl, ?hyw2⟩) hHeldw ?_
      case hyw2 => (intro w hSw; go_simp; rfl)
      simp only [Act.put]
      refine wpAnyH_take (i := 3) (oi := _) (v := ?vw3) rfl (by kernel_rfl) (by kernel_rfl) (by kernel_rfl) (fun _ _ _ h => h) (Or.inl ⟨by rfl, ?hyw3⟩) hHeldw ?_
      case hyw3 => (intro w hSw; go_simp; rfl)
      simp only [Act.put]
      refine wpAnyH_take (i := 4) (oi := _) (v := ?vw4) rfl (by kernel_rfl) (by kernel_rfl) (by kernel_rfl) (fun _ _ _ h => h) (Or.inl ⟨by rfl, ?hyw4⟩) hHeldw ?_
      case hyw4 => (intro w hSw; go_simp; rfl)
      simp only [Act.put]
      refine wpAnyH_take (i := 5) (oi := _) (v := ?vw5) rfl (by kernel_rfl) (by kernel_rfl) (by kernel_rfl) (fun _ _ _ h => h) (Or.inl ⟨by rfl, ?hyw5⟩) hHeldw ?_
      case hyw5 => (intro w hSw; go_simp; rfl)
      simp only [Act.put]
      refine wpAnyH_take (i := 6) (oi := _) (v := ?vw6) rfl (by kernel_rfl) (by kernel_rfl) (by kernel_rfl) (fun _ _ _ h => h) (Or.inl ⟨by rfl, ?hyw6⟩) hHeldw ?_
      case hyw6 => (intro w hSw; go_simp; rfl)
      simp only [Act.put]
      refine wpAnyH_take (i := 7) (oi := _) (v := ?vw7) rfl (by kernel_rfl) (by kernel_rfl) (by kernel_rfl) (fun _ _ _ h => h) (Or.inl ⟨by rfl, ?hyw7⟩) hHeldw ?_
      case hyw7 => (intro w hSw; go_simp; rfl)
      simp only [Act.put]
      refine wpAnyH_take (i := 8) (oi := _) (v := ?vw8) rfl (by kernel_rfl) (by kernel_rfl) (by kernel_rfl) (fun _ _ _ h => h) (Or.inl ⟨by rfl, ?hyw8⟩) hHeldw ?_
      case hyw8 => (intro w hSw; go_simp; rfl)
      simp only [Act.put]
      refine wpAnyH_take (i := 9) (oi := _) (v := ?vw9) rfl (by kernel_rfl) (by kernel_rfl) (by kernel_rfl) (fun _ _ _ h => h) (Or.inl ⟨by rfl, ?hyw9⟩) hHeldw ?_
      case hyw9 => (intro w hSw; go_simp; rfl)
      simp only [Act.put]
      refine wpAnyH_take (i := 10) (oi := _) (v := ?vw10) rfl (by kernel_rfl) (by kernel_rfl) (by kernel_rfl) (fun _ _ _ h => h) (Or.inl ⟨by rfl, ?hyw10⟩) hHeldw ?_
      case hyw10 => (intro w hSw; go_simp; rfl)
      simp only [Act.put]
      refine wpAnyH_take (i := 11) (oi := _) (v := ?vw11) rfl (by kernel_rfl) (by kernel_rfl) (by kernel_rfl) (fun _ _ _ h => h) (Or.inl ⟨by rfl, ?hyw11⟩) hHeldw ?_
      case hyw11 => (intro w hSw; go_simp; rfl)
      simp only [Act.put]
      refine wpAnyH_take (i := 12) (oi := _) (v := ?vw12) rfl (by kernel_rfl) (by kernel_rfl) (by kernel_rfl) (fun _ _ _ h => h) (Or.inl ⟨by rfl, ?hyw12⟩) hHeldw ?_
      case hyw12 => (intro w hSw; go_simp; rfl)
      simp only [Act.put]
      refine wpAnyH_take (i := 13) (oi := _) (v := ?vw13) rfl (by kernel_rfl) (by kernel_rfl) (by kernel_rfl) (fun _ _ _ h => h) (Or.inl ⟨by rfl, ?hyw13⟩) hHeldw ?_
      case hyw13 => (intro w hSw; go_simp; rfl)
      simp only [Act.put]
      refine wpAnyH_take (i := 14) (oi := _) (v := ?vw14) rfl (by kernel_rfl) (by kernel_rfl) (by kernel_rfl) (fun _ _ _ h => h) (Or.inl ⟨by rfl, ?hyw14⟩) hHeldw ?_
      case hyw14 => (intro w hSw; go_simp; rfl)
      simp only [Act.put]
      refine wpAnyH_take (i := 15) (oi := _) (v := ?vw15) rfl (by kernel_rfl) (by kernel_rfl) (by kernel_rfl) (fun _ _ _ h => h) (Or.inl ⟨by rfl, ?hyw15⟩) hHeldw ?_
      case hyw15 => (intro w hSw; go_simp; rfl)
      simp only [Act.put]
      refine wpAnyH_take (i := 16) (oi := _) (v := ?vw16) rfl (by kernel_rfl) (by kernel_rfl) (by kernel_rfl) (fun _ _ _ h => h) (Or.inl ⟨by rfl, ?hyw16⟩) hHeldw ?_
      case hyw16 => (intro w hSw; go_simp; rfl)
      simp only [Act.put]
      refine wpAnyH_take (i := 17) (oi := _) (v := ?vw17) rfl (by kernel_rfl) (by kernel_rfl) (by kernel_rfl) (fun _ _ _ h => h) (Or.inl ⟨by rfl, ?hyw17⟩) hHeldw ?_
      case hyw17 => (intro w hSw; go_simp; rfl)
      simp only [Act.put]
      refine wpAnyH_take (i := 18) (oi := _) (v := ?vw18) rfl (by kernel_rfl) (by kernel_rfl) (by kernel_rfl) (fun _ _ _ h => h) (Or.inl ⟨by rfl, ?hyw18⟩) hHeldw ?_
      case hyw18 => (intro w hSw; go_simp; rfl)
      simp only [Act.put]
      refine wpAnyH_take (i := 19) (oi := _) (v := ?vw19) rfl (by kernel_rfl) (by kernel_rfl) (by kernel_rfl) (fun _ _ _ h => h) (Or.inl ⟨by rfl, ?hyw19⟩) hHeldw ?_
      case hyw19 => (intro w hSw; go_simp; rfl)
      simp only [Act.put]
      refine wpAnyH_take (i := 20) (oi := _) (v := ?vw20) rfl (by kernel_rfl) (by kernel_rfl) (by kernel_rfl) (fun _ _ _ h => h) (Or.inl ⟨by rfl, ?hyw20⟩) hHeldw ?_
      case hyw20 => (intro w hSw; go_simp; rfl)
      simp only [Act.put]
      refine wpAnyH_take (i := 21) (oi := _) (v := ?vw21) rfl (by kernel_rfl) (by kernel_rfl) (by kernel_rfl) (fun _ _ _ h => h) (Or.inl ⟨by rfl, ?hyw21⟩) hHeldw ?_
      case hyw21 => (intro w hSw; go_simp; rfl)
      simp only [Act.put]
      refine wpAnyH_take (i := 22) (oi := _) (v := ?vw22) rfl (by kernel_rfl) (by kernel_rfl) (by kernel_rfl) (fun _ _ _ h => h) (Or.inl ⟨by rfl, ?hyw22⟩) hHeldw ?_
      case hyw22 => (intro w hSw; go_simp; rfl)
      simp only [Act.put]
      refine wpAnyH_take (i := 23) (oi := _) (v := ?vw23) rfl (by kernel_rfl) (by kernel_rfl) (by kernel_rfl) (fun _ _ _ h => h) (Or.inl ⟨by rfl, ?hyw23⟩) hHeldw ?_
      case hyw23 => (intro w hSw; go_simp; rfl)
      simp only [Act.put]
      refine wpAnyH_take (i := 24) (oi := _) (v := ?vw24) rfl (by kernel_rfl) (by kernel_rfl) (by kernel_rfl) (fun _ _ _ h => h) (Or.inl ⟨by rfl, ?hyw24⟩) hHeldw ?_
      case hyw24 => (intro w hSw; go_simp; rfl)
      simp only [Act.put]
      refine wpAnyH_take (i := 25) (oi := _) (v := ?vw25) rfl (by kernel_rfl) (by kernel_rfl) (by kernel_rfl) (fun _ _ _ h => h) (Or.inl ⟨by rfl, ?hyw25⟩) hHeldw ?_
      case hyw25 => (intro w hSw; go_simp; rfl)
      simp only [Act.put]
      refine wpAnyH_ready (rs := [26]) (by kernel_rfl) (by simp) ?_
      refine AllReadyH.cons (o := _) rfl (fun Kc hcont => ?_) AllReadyH.nil
      go_simp
      refine hcont.out _ _ trivial (fun hHeldw1 => ?_)
      clear hcont Kc
      refine wpAnyH_ready (rs := [27]) (by kernel_rfl) (by simp) ?_
      refine AllReadyH.cons (o := _) rfl (fun Kc hcont => ?_) AllReadyH.nil
      refine step_append_lit rfl (.tmp 13) (.tmp 39) 157 rfl w.heap.size 44 i0 _ 8 W64 (fun _ => rfl) Tryd.underlying157 hi hz0 hz1 hz2 rfl (by omega) _ _ [le32 [x0, x1, x2, x3] 4] 1 rfl rfl (hown.drew.alloc _) _ 0 1 rfl (new_lit _ _ _ _ (by rw [HV.out, List.map_cons, HLE.out]; rfl)) (by rw [HLN.out]; omega) (by simp <;> exact Nat.le_succ_of_le hbel.size) ?_
      intro V2 wz hown2 _ hbz
      refine hcont.out _ _ trivial (fun hHeldw2 => ?_)
      clear hcont Kc
      refine wpAnyH_take (i := 28) (oi := _) (v := ?vw28) rfl (by kernel_rfl) (by kernel_rfl) (by kernel_rfl) (fun _ _ _ h => h) (Or.inl ⟨by rfl, ?hyw28⟩) hHeldw2 ?_
      case hyw28 => (intro w hSw; go_simp; rfl)
      simp only [Act.put]
      refine wpAnyH_done (by kernel_rfl) ?_ _
      have hsz := hbel.size
      have hbel2 : Below w.heap.size w wz := ((hbel.drew).alloc (by simpa using hsz) _).trans hbz
      clear hbz hown hbel
      go_wp2
      go_roundw
      case rel => exact ⟨k + 1, by omega, by go_num, by rw [HNX.out]; exact hown2, hbel2⟩
      case measure => simp [intOf]; omega
    · have hd : decide (4 * (k : Int) + 3 < (s.size : Int)) = false := by simp; omega
      rw [show k = n by omega] at hown
      go_wp2
      go_ret
      exact ⟨_, rfl, hown, hbel⟩
end Go.Proofs.YtgblhjmnenmlkaaDoor
namespace Go.Proofs.YtgblhjmnenmlkaaDoor
open Go.RowKit

theorem region_tail' {P : Program} {id : Nat} {Q : Exit → Act → World → Prop} {a : Act} {w : World} {l : List Oper} (n : Nat) (hm : P.follows .mixedOrders = true) (hB : Region.lexTailB .any l.toArray n = true)
    (h : wpStill P l.toArray w.drew (fun a' => wpList P l.toArray Q (l.drop n) a' w.drew) (l.take n) a) : (Code.region id l.toArray true).wp P Q a w :=
  wp_region_still_tail n hm hB h
def nAt (k : Nat) : Nat := [16, 12, 8, 7].getD k 0
def qsE (m : List UInt32) (a b d n : Nat) : List UInt32 := (m.set a (m.getD a 0 + m.getD b 0)).set d (rotl32 (m.getD d 0 ^^^ (m.getD a 0 + m.getD b 0)) n)
def qs (l : List UInt32) (a b c d : Nat) : Nat → List UInt32
  | 0 => l
  | k + 1 => if k % 2 = 0 then qsE (qs l a b c d k) a b d (nAt k) else qsE (qs l a b c d k) c d b (nAt k)
theorem length_qs (l : List UInt32) (a b c d k : Nat) : (qs l a b c d k).length = l.length := by
  induction k with
  | zero => rfl
  | succ k ih => rw [qs]; split <;> simp [qsE, ih]
theorem getD_set (l : List UInt32) (i j : Nat) (v : UInt32) (h : i < l.length) : (l.set i v).getD j 0 = if i = j then v else l.getD j 0 := by
  simp only [List.getD_eq_getElem?_getD, List.getElem?_set]
  by_cases e : i = j
  · subst e; simp [h]
  · simp [e]
theorem qs_four (l : List UInt32) (a b c d : Nat) (ha : a < l.length) (hb : b < l.length) (hc : c < l.length) (hd : d < l.length) (hab : a ≠ b) (hac : a ≠ c) (had : a ≠ d) (hbc : b ≠ c) (hbd : b ≠ d) (hcd : c ≠ d) :
    qs l a b c d 4 = quarter l a b c d := by
  apply List.ext_getElem?
  intro i
  have e : ∀ m : List UInt32, m.length = l.length → m[i]? = if i < l.length then some (m.getD i 0) else none := by
    intro m hm
    by_cases h : i < l.length
    · rw [if_pos h, List.getD_eq_getElem?_getD, List.getElem?_eq_getElem (by omega)]; rfl
    · rw [if_neg h, List.getElem?_eq_none (by omega)]
  rw [e _ (length_qs _ _ _ _ _ _), e _ (length_quarter _ _ _ _ _)]
  congr 2
  simp only [qs, qsE, quarter, qmix, nAt, Nat.reduceMod, if_true, Nat.one_ne_zero, if_false, List.getD_cons_zero, List.getD_cons_succ]
  have hba := hab.symm
  have hca := hac.symm
  have hda := had.symm
  have hcb := hbc.symm
  have hdb := hbd.symm
  have hdc := hcd.symm
  simp only [getD_set, List.length_set, *, if_true, if_false]
  by_cases h1 : a = i
  · subst h1; simp [*]
  · by_cases h2 : b = i
    · subst h2; simp [*]
    · by_cases h3 : c = i
      · subst h3; simp [*]
      · by_cases h4 : d = i
        · subst h4; simp [*]
        · simp [h1, h2, h3, h4]
theorem xor_w64 (x y : UInt32) : bits .xor .u64 (n32 x) (n32 y) = n32 (x ^^^ y) := by
  rw [n64_of_n32, n64_of_n32, xor_n64, n64_of_n32]; rfl
theorem add_w64 (x y : UInt32) : IntKind.u64.wrap (n32 x + n32 y) % 4294967296 = n32 (x + y) := by
  have := n32_lt x; have := n32_lt y; have := n32_nonneg x; have := n32_nonneg y
  rw [wrap_u64, ← add_n32']; omega
def QRel (w : World) (V : Value) (l : List UInt32) (bK : Nat) (wr : World) : Prop :=
  Own wr w.heap.size 44 W64 V l ∧ Below w.heap.size w wr ∧ Blk wr bK 3 #[.int .i64 16, .int .i64 12, .int .i64 8, .int .i64 7]
theorem nAt_cell (k : Nat) (h : k < 4) : (#[.int .i64 16, .int .i64 12, .int .i64 8, .int .i64 7] : Array Value)[k]? = some (.int .i64 (nAt k : Int)) := by
  match k, h with
  | 0, _ => rfl
  | 1, _ => rfl
  | 2, _ => rfl
  | 3, _ => rfl
theorem leftN_any (x : UInt32) (n : Nat) (w : World) (h1 : 1 ≤ n) (h : n < 32) :
    Calls Tryd.prog 123 #[.int .u64 (n32 x), .int .i64 (n : Int)] w fun e w' => e = .returned (.int .u64 (n32 (rotl32 x n))) ∧ w = w' := by
  rw [← rotI_eq x n h1 h]; exact left_any x n w (by omega)
theorem leftN_q (x : UInt32) (n : Nat) (w : World) (h1 : 1 ≤ n) (h : n < 32) :
    Calls Tryd.prog 123 #[.int .u64 (n32 x), .int .i64 (n : Int)] w fun e w' => e = .returned (.int .u64 (n32 (rotl32 x n))) ∧ w' = w :=
  (leftN_any x n w h1 h).mono fun _ _ h => ⟨h.1, h.2.symm⟩
set_option maxHeartbeats 1000000 in
set_option maxRecDepth 100000 in
theorem refQuarter_any (V : Value) (l : List UInt32) (a b c d : Nat) (w : World) (hV : Own w 0 44 W64 V l) (hl : l.length = 16) (ha : a < 16) (hb : b < 16) (hc : c < 16) (hd : d < 16)
    (hab : a ≠ b) (hac : a ≠ c) (had : a ≠ d) (hbc : b ≠ c) (hbd : b ≠ d) (hcd : c ≠ d) :
    Calls Tryd.prog 113 #[V, .int .i64 (a : Int), .int .i64 (b : Int), .int .i64 (c : Int), .int .i64 (d : Int)] w
      fun e w' => ∃ V', e = .returned V' ∧ Own w' w.heap.size 44 W64 V' (quarter l a b c d) ∧ Below w.heap.size w w' := by
  obtain ⟨i0, hi, hz0, hz1, hz2⟩ := info_parts infoU64
  obtain ⟨V1, w1, hrun, hown1, hg1⟩ := run_append_rows (P := Tryd.prog) (w.alloc (.cells #[] 44)) w.heap.size 0 157 157 44 i0 _ 8 W64 (fun _ => rfl) Tryd.underlying157 hi hz0 hz1 hz2 rfl
    (.slice (some ⟨w.heap.size, 0, none⟩) 0 0) V [] l (Own.new w _ _ W64 [] (Nat.le_refl _) (Nat.zero_le _)) (hV.alloc _) (by rw [hl]; decide) (by omega) (by simp)
  have hbel1 : Below w.heap.size w w1 := ((Below.refl _ _).alloc (Nat.le_refl _) _).grown hg1 (by simp) (fun k hk => by injection hk with hk; exact hk ▸ Nat.le_refl _)
  rw [List.nil_append] at hown1
  have HR := hid hrun
  have hfin := qs_four l a b c d (by omega) (by omega) (by omega) (by omega) hab hac had hbc hbd hcd
  have HF := hid hfin
  have HL := hid hl
  obtain ⟨A, cap, hV2⟩ := hV.slice
  rw [hl] at hV2
  subst hV2
  clear hz0 hz1 hz2 hi hrun hfin hl hg1
  go_enter Tryd.func113, Tryd.ntmps113
  go_wp2_with (at_builtin; refine Lib.wpList_append_run _ rfl (.tmp 14) (.tmp 15) _ _ rfl _ _ rfl rfl _ _ HR.out ?_)
  rcases hown1.form with ⟨_, e⟩ | ⟨g, cap1, hV1, hg1, hg2, _, _⟩
  · have := HL.out; rw [e] at this; exact absurd this (by decide)
  rw [HL.out] at hV1
  subst hV1
  have HG := hid (And.intro hg1 hg2)
  have hK0 : QRel w (.slice (some ⟨g, 0, none⟩) 16 cap1) (qs l a b c d 0) w1.heap.size (w1.alloc (.cells #[.int .i64 16, .int .i64 12, .int .i64 8, .int .i64 7] 3)) := ⟨hown1.alloc _, hbel1.alloc hbel1.size _, Blk.new w1 _ _⟩
  clear hown1 hbel1 HR
  go_loopw [13, 19] (fun _ i wr => ∃ k : Nat, k ≤ 4 ∧ i = .int .i64 k ∧ QRel w (.slice (some ⟨g, 0, none⟩) 16 cap1) (qs l a b c d k) w1.heap.size wr) (fun _ i _ => 4 - (intOf i).toNat)
  case atStart => exact ⟨0, Nat.zero_le _, rfl, hK0⟩
  case round =>
    clear hK0
    obtain ⟨k, hk, rfl, hR⟩ := hrel
    by_cases hlt : k < 4
    · have h4 : k = 0 ∨ k = 1 ∨ k = 2 ∨ k = 3 := by omega
      rcases h4 with h4 | h4 | h4 | h4
      · rw [show k = 0 by omega] at hR
        obtain ⟨hown, hbel, hbk⟩ := hR
        have hkc : wr.cell? ⟨w1.heap.size, 0, none⟩ = some (.int .i64 16) := hbk.cell 0
        have hq : qs l a b c d (0 + 1) = qsE (qs l a b c d 0) a b d 16 := rfl
        obtain ⟨m, hm⟩ : ∃ m, m = qs l a b c d 0 := ⟨_, rfl⟩
        have hml : m.length = 16 := by rw [hm, length_qs, HL.out]
        rw [← hm] at hown hq
        have HQ := hid hq
        have HML := hid hml
        clear hq hm
        rw [← hml] at hown
        have cx := hown.cell 0 a (by omega)
        have cy := hown.cell 0 b (by omega)
        have cz := hown.cell 0 d (by omega)
        have fx := hown.frozen a
        have fz := hown.frozen d
        rw [hml] at hown
        obtain ⟨X, hX⟩ : ∃ x, x = m.getD a 0 := ⟨_, rfl⟩
        obtain ⟨Y, hY⟩ : ∃ x, x = m.getD b 0 := ⟨_, rfl⟩
        obtain ⟨Z, hZ⟩ : ∃ x, x = m.getD d 0 := ⟨_, rfl⟩
        rw [← hX] at cx
        rw [← hY] at cy
        rw [← hZ] at cz
        have hE : qsE m a b d 16 = (m.set a (X + Y)).set d (rotl32 (Z ^^^ (X + Y)) 16) := by rw [qsE, ← hX, ← hY, ← hZ]
        have HE := hid hE
        have hadd := add_w64 X Y
        have hxor := xor_w64 Z (X + Y)
        have hle : (0 : Int) ≤ IntKind.u64.wrap (n32 X + n32 Y) := by have := n32_nonneg X; have := n32_nonneg Y; rw [wrap_u64]; omega
        have hkl : ((k : Int)) = 0 := by omega
        have hRR : QRel w (.slice (some ⟨g, 0, none⟩) 16 cap1) m w1.heap.size wr := ⟨hown, hbel, hbk⟩
        have HRR := hid hRR
        have HZ := hid hZ
        clear hX hY hZ hE hml hRR hown hbel hbk
        go_wp2
        go_region
        obtain ⟨w2, hw2⟩ : ∃ w2, w2 = (wr.setCell ⟨g, a, none⟩ (W64 (X + Y))).drew := ⟨_, rfl⟩
        have hR2 : QRel w (.slice (some ⟨g, 0, none⟩) 16 cap1) (m.set a (X + Y)) w1.heap.size w2 := by
          rw [hw2]
          exact ⟨(HRR.out.1.set_ a (X + Y)).drew, (HRR.out.2.1.setCell HG.out.1 _).drew, (HRR.out.2.2.far (fun e => by have e' : w1.heap.size = g := e; exact absurd e' (Nat.ne_of_gt HG.out.2)) _).drew⟩
        rw [← hw2]
        clear hw2 cx cy cz fx fz hadd hle HRR hkc
        have hml2 : (m.set a (X + Y)).length = 16 := by rw [List.length_set, HML.out]
        have hown2 := hR2.1
        rw [← hml2] at hown2
        have cz := hown2.cell 0 d (by rw [hml2]; omega)
        have cx := hown2.cell 0 a (by rw [hml2]; omega)
        have fz := hown2.frozen d
        rw [getD_set _ _ _ _ (by rw [HML.out]; omega), if_neg (by omega), ← HZ.out] at cz
        rw [getD_set _ _ _ _ (by rw [HML.out]; omega), if_pos rfl] at cx
        have HR2 := hid hR2
        clear hml2 hown2 hR2
        have hzi : (d : Int) < 16 := by omega
        have hxi : (a : Int) < 16 := by omega
        have hzp : (0 : Int) ≤ d := by omega
        have hxp : (0 : Int) ≤ a := by omega
        go_wp2
        refine region_tail' 13 (by kernel_rfl) (by kernel_rfl) ?_
        simp only [List.take_succ_cons, List.take_zero, List.drop_succ_cons, List.drop_zero]
        repeat still_step
        still_call (leftN_q _ 16 _ (by omega) (by omega))
        repeat still_step
        refine wpStill_nil ?_
        go_wp2
        go_roundw
        case rel =>
          refine ⟨0 + 1, by omega, by simp, ?_⟩
          rw [HQ.out, HE.out]
          exact ⟨(HR2.out.1.set_ d (rotl32 (Z ^^^ (X + Y)) 16)).drew, (HR2.out.2.1.setCell HG.out.1 _).drew, (HR2.out.2.2.far (fun e => by have e' : w1.heap.size = g := e; exact absurd e' (Nat.ne_of_gt HG.out.2)) _).drew⟩
        case measure => simp [intOf]; omega
      · rw [show k = 1 by omega] at hR
        obtain ⟨hown, hbel, hbk⟩ := hR
        have hkc : wr.cell? ⟨w1.heap.size, 1, none⟩ = some (.int .i64 12) := hbk.cell 1
        have hq : qs l a b c d (1 + 1) = qsE (qs l a b c d 1) c d b 12 := rfl
        obtain ⟨m, hm⟩ : ∃ m, m = qs l a b c d 1 := ⟨_, rfl⟩
        have hml : m.length = 16 := by rw [hm, length_qs, HL.out]
        rw [← hm] at hown hq
        have HQ := hid hq
        have HML := hid hml
        clear hq hm
        rw [← hml] at hown
        have cx := hown.cell 0 c (by omega)
        have cy := hown.cell 0 d (by omega)
        have cz := hown.cell 0 b (by omega)
        have fx := hown.frozen c
        have fz := hown.frozen b
        rw [hml] at hown
        obtain ⟨X, hX⟩ : ∃ x, x = m.getD c 0 := ⟨_, rfl⟩
        obtain ⟨Y, hY⟩ : ∃ x, x = m.getD d 0 := ⟨_, rfl⟩
        obtain ⟨Z, hZ⟩ : ∃ x, x = m.getD b 0 := ⟨_, rfl⟩
        rw [← hX] at cx
        rw [← hY] at cy
        rw [← hZ] at cz
        have hE : qsE m c d b 12 = (m.set c (X + Y)).set b (rotl32 (Z ^^^ (X + Y)) 12) := by rw [qsE, ← hX, ← hY, ← hZ]
        have HE := hid hE
        have hadd := add_w64 X Y
        have hxor := xor_w64 Z (X + Y)
        have hle : (0 : Int) ≤ IntKind.u64.wrap (n32 X + n32 Y) := by have := n32_nonneg X; have := n32_nonneg Y; rw [wrap_u64]; omega
        have hkl : ((k : Int)) = 1 := by omega
        have hRR : QRel w (.slice (some ⟨g, 0, none⟩) 16 cap1) m w1.heap.size wr := ⟨hown, hbel, hbk⟩
        have HRR := hid hRR
        have HZ := hid hZ
        clear hX hY hZ hE hml hRR hown hbel hbk
        go_wp2
        go_region
        obtain ⟨w2, hw2⟩ : ∃ w2, w2 = (wr.setCell ⟨g, c, none⟩ (W64 (X + Y))).drew := ⟨_, rfl⟩
        have hR2 : QRel w (.slice (some ⟨g, 0, none⟩) 16 cap1) (m.set c (X + Y)) w1.heap.size w2 := by
          rw [hw2]
          exact ⟨(HRR.out.1.set_ c (X + Y)).drew, (HRR.out.2.1.setCell HG.out.1 _).drew, (HRR.out.2.2.far (fun e => by have e' : w1.heap.size = g := e; exact absurd e' (Nat.ne_of_gt HG.out.2)) _).drew⟩
        rw [← hw2]
        clear hw2 cx cy cz fx fz hadd hle HRR hkc
        have hml2 : (m.set c (X + Y)).length = 16 := by rw [List.length_set, HML.out]
        have hown2 := hR2.1
        rw [← hml2] at hown2
        have cz := hown2.cell 0 b (by rw [hml2]; omega)
        have cx := hown2.cell 0 c (by rw [hml2]; omega)
        have fz := hown2.frozen b
        rw [getD_set _ _ _ _ (by rw [HML.out]; omega), if_neg (by omega), ← HZ.out] at cz
        rw [getD_set _ _ _ _ (by rw [HML.out]; omega), if_pos rfl] at cx
        have HR2 := hid hR2
        clear hml2 hown2 hR2
        have hzi : (b : Int) < 16 := by omega
        have hxi : (c : Int) < 16 := by omega
        have hzp : (0 : Int) ≤ b := by omega
        have hxp : (0 : Int) ≤ c := by omega
        go_wp2
        refine region_tail' 13 (by kernel_rfl) (by kernel_rfl) ?_
        simp only [List.take_succ_cons, List.take_zero, List.drop_succ_cons, List.drop_zero]
        repeat still_step
        still_call (leftN_q _ 12 _ (by omega) (by omega))
        repeat still_step
        refine wpStill_nil ?_
        go_wp2
        go_roundw
        case rel =>
          refine ⟨1 + 1, by omega, by simp, ?_⟩
          rw [HQ.out, HE.out]
          exact ⟨(HR2.out.1.set_ b (rotl32 (Z ^^^ (X + Y)) 12)).drew, (HR2.out.2.1.setCell HG.out.1 _).drew, (HR2.out.2.2.far (fun e => by have e' : w1.heap.size = g := e; exact absurd e' (Nat.ne_of_gt HG.out.2)) _).drew⟩
        case measure => simp [intOf]; omega
      · rw [show k = 2 by omega] at hR
        obtain ⟨hown, hbel, hbk⟩ := hR
        have hkc : wr.cell? ⟨w1.heap.size, 2, none⟩ = some (.int .i64 8) := hbk.cell 2
        have hq : qs l a b c d (2 + 1) = qsE (qs l a b c d 2) a b d 8 := rfl
        obtain ⟨m, hm⟩ : ∃ m, m = qs l a b c d 2 := ⟨_, rfl⟩
        have hml : m.length = 16 := by rw [hm, length_qs, HL.out]
        rw [← hm] at hown hq
        have HQ := hid hq
        have HML := hid hml
        clear hq hm
        rw [← hml] at hown
        have cx := hown.cell 0 a (by omega)
        have cy := hown.cell 0 b (by omega)
        have cz := hown.cell 0 d (by omega)
        have fx := hown.frozen a
        have fz := hown.frozen d
        rw [hml] at hown
        obtain ⟨X, hX⟩ : ∃ x, x = m.getD a 0 := ⟨_, rfl⟩
        obtain ⟨Y, hY⟩ : ∃ x, x = m.getD b 0 := ⟨_, rfl⟩
        obtain ⟨Z, hZ⟩ : ∃ x, x = m.getD d 0 := ⟨_, rfl⟩
        rw [← hX] at cx
        rw [← hY] at cy
        rw [← hZ] at cz
        have hE : qsE m a b d 8 = (m.set a (X + Y)).set d (rotl32 (Z ^^^ (X + Y)) 8) := by rw [qsE, ← hX, ← hY, ← hZ]
        have HE := hid hE
        have hadd := add_w64 X Y
        have hxor := xor_w64 Z (X + Y)
        have hle : (0 : Int) ≤ IntKind.u64.wrap (n32 X + n32 Y) := by have := n32_nonneg X; have := n32_nonneg Y; rw [wrap_u64]; omega
        have hkl : ((k : Int)) = 2 := by omega
        have hRR : QRel w (.slice (some ⟨g, 0, none⟩) 16 cap1) m w1.heap.size wr := ⟨hown, hbel, hbk⟩
        have HRR := hid hRR
        have HZ := hid hZ
        clear hX hY hZ hE hml hRR hown hbel hbk
        go_wp2
        go_region
        obtain ⟨w2, hw2⟩ : ∃ w2, w2 = (wr.setCell ⟨g, a, none⟩ (W64 (X + Y))).drew := ⟨_, rfl⟩
        have hR2 : QRel w (.slice (some ⟨g, 0, none⟩) 16 cap1) (m.set a (X + Y)) w1.heap.size w2 := by
          rw [hw2]
          exact ⟨(HRR.out.1.set_ a (X + Y)).drew, (HRR.out.2.1.setCell HG.out.1 _).drew, (HRR.out.2.2.far (fun e => by have e' : w1.heap.size = g := e; exact absurd e' (Nat.ne_of_gt HG.out.2)) _).drew⟩
        rw [← hw2]
        clear hw2 cx cy cz fx fz hadd hle HRR hkc
        have hml2 : (m.set a (X + Y)).length = 16 := by rw [List.length_set, HML.out]
        have hown2 := hR2.1
        rw [← hml2] at hown2
        have cz := hown2.cell 0 d (by rw [hml2]; omega)
        have cx := hown2.cell 0 a (by rw [hml2]; omega)
        have fz := hown2.frozen d
        rw [getD_set _ _ _ _ (by rw [HML.out]; omega), if_neg (by omega), ← HZ.out] at cz
        rw [getD_set _ _ _ _ (by rw [HML.out]; omega), if_pos rfl] at cx
        have HR2 := hid hR2
        clear hml2 hown2 hR2
        have hzi : (d : Int) < 16 := by omega
        have hxi : (a : Int) < 16 := by omega
        have hzp : (0 : Int) ≤ d := by omega
        have hxp : (0 : Int) ≤ a := by omega
        go_wp2
        refine region_tail' 13 (by kernel_rfl) (by kernel_rfl) ?_
        simp only [List.take_succ_cons, List.take_zero, List.drop_succ_cons, List.drop_zero]
        repeat still_step
        still_call (leftN_q _ 8 _ (by omega) (by omega))
        repeat still_step
        refine wpStill_nil ?_
        go_wp2
        go_roundw
        case rel =>
          refine ⟨2 + 1, by omega, by simp, ?_⟩
          rw [HQ.out, HE.out]
          exact ⟨(HR2.out.1.set_ d (rotl32 (Z ^^^ (X + Y)) 8)).drew, (HR2.out.2.1.setCell HG.out.1 _).drew, (HR2.out.2.2.far (fun e => by have e' : w1.heap.size = g := e; exact absurd e' (Nat.ne_of_gt HG.out.2)) _).drew⟩
        case measure => simp [intOf]; omega
      · rw [show k = 3 by omega] at hR
        obtain ⟨hown, hbel, hbk⟩ := hR
        have hkc : wr.cell? ⟨w1.heap.size, 3, none⟩ = some (.int .i64 7) := hbk.cell 3
        have hq : qs l a b c d (3 + 1) = qsE (qs l a b c d 3) c d b 7 := rfl
        obtain ⟨m, hm⟩ : ∃ m, m = qs l a b c d 3 := ⟨_, rfl⟩
        have hml : m.length = 16 := by rw [hm, length_qs, HL.out]
        rw [← hm] at hown hq
        have HQ := hid hq
        have HML := hid hml
        clear hq hm
        rw [← hml] at hown
        have cx := hown.cell 0 c (by omega)
        have cy := hown.cell 0 d (by omega)
        have cz := hown.cell 0 b (by omega)
        have fx := hown.frozen c
        have fz := hown.frozen b
        rw [hml] at hown
        obtain ⟨X, hX⟩ : ∃ x, x = m.getD c 0 := ⟨_, rfl⟩
        obtain ⟨Y, hY⟩ : ∃ x, x = m.getD d 0 := ⟨_, rfl⟩
        obtain ⟨Z, hZ⟩ : ∃ x, x = m.getD b 0 := ⟨_, rfl⟩
        rw [← hX] at cx
        rw [← hY] at cy
        rw [← hZ] at cz
        have hE : qsE m c d b 7 = (m.set c (X + Y)).set b (rotl32 (Z ^^^ (X + Y)) 7) := by rw [qsE, ← hX, ← hY, ← hZ]
        have HE := hid hE
        have hadd := add_w64 X Y
        have hxor := xor_w64 Z (X + Y)
        have hle : (0 : Int) ≤ IntKind.u64.wrap (n32 X + n32 Y) := by have := n32_nonneg X; have := n32_nonneg Y; rw [wrap_u64]; omega
        have hkl : ((k : Int)) = 3 := by omega
        have hRR : QRel w (.slice (some ⟨g, 0, none⟩) 16 cap1) m w1.heap.size wr := ⟨hown, hbel, hbk⟩
        have HRR := hid hRR
        have HZ := hid hZ
        clear hX hY hZ hE hml hRR hown hbel hbk
        go_wp2
        go_region
        obtain ⟨w2, hw2⟩ : ∃ w2, w2 = (wr.setCell ⟨g, c, none⟩ (W64 (X + Y))).drew := ⟨_, rfl⟩
        have hR2 : QRel w (.slice (some ⟨g, 0, none⟩) 16 cap1) (m.set c (X + Y)) w1.heap.size w2 := by
          rw [hw2]
          exact ⟨(HRR.out.1.set_ c (X + Y)).drew, (HRR.out.2.1.setCell HG.out.1 _).drew, (HRR.out.2.2.far (fun e => by have e' : w1.heap.size = g := e; exact absurd e' (Nat.ne_of_gt HG.out.2)) _).drew⟩
        rw [← hw2]
        clear hw2 cx cy cz fx fz hadd hle HRR hkc
        have hml2 : (m.set c (X + Y)).length = 16 := by rw [List.length_set, HML.out]
        have hown2 := hR2.1
        rw [← hml2] at hown2
        have cz := hown2.cell 0 b (by rw [hml2]; omega)
        have cx := hown2.cell 0 c (by rw [hml2]; omega)
        have fz := hown2.frozen b
        rw [getD_set _ _ _ _ (by rw [HML.out]; omega), if_neg (by omega), ← HZ.out] at cz
        rw [getD_set _ _ _ _ (by rw [HML.out]; omega), if_pos rfl] at cx
        have HR2 := hid hR2
        clear hml2 hown2 hR2
        have hzi : (b : Int) < 16 := by omega
        have hxi : (c : Int) < 16 := by omega
        have hzp : (0 : Int) ≤ b := by omega
        have hxp : (0 : Int) ≤ c := by omega
        go_wp2
        refine region_tail' 13 (by kernel_rfl) (by kernel_rfl) ?_
        simp only [List.take_succ_cons, List.take_zero, List.drop_succ_cons, List.drop_zero]
        repeat still_step
        still_call (leftN_q _ 7 _ (by omega) (by omega))
        repeat still_step
        refine wpStill_nil ?_
        go_wp2
        go_roundw
        case rel =>
          refine ⟨3 + 1, by omega, by simp, ?_⟩
          rw [HQ.out, HE.out]
          exact ⟨(HR2.out.1.set_ b (rotl32 (Z ^^^ (X + Y)) 7)).drew, (HR2.out.2.1.setCell HG.out.1 _).drew, (HR2.out.2.2.far (fun e => by have e' : w1.heap.size = g := e; exact absurd e' (Nat.ne_of_gt HG.out.2)) _).drew⟩
        case measure => simp [intOf]; omega
    · rw [show k = 4 by omega, HF.out] at hR
      have hd : decide ((k : Int) < 4) = false := by simp; omega
      go_wp2
      go_ret
      exact ⟨_, rfl, hR.1, hR.2.1⟩
end Go.Proofs.YtgblhjmnenmlkaaDoor
namespace Go.Proofs.YtgblhjmnenmlkaaDoor
open Go.RowKit

theorem refQ0_any (V : Value) (l : List UInt32) (w : World) (hV : Own w 0 44 W64 V (dbl l 0)) (hl : l.length = 16) :
    Calls Tryd.prog 113 #[V, .int .i64 0, .int .i64 4, .int .i64 8, .int .i64 12] w fun e w' => ∃ V', e = .returned V' ∧ Own w' w.heap.size 44 W64 V' (dbl l 1) ∧ Below w.heap.size w w' :=
  refQuarter_any V (dbl l 0) 0 4 8 12 w hV (by rw [length_dbl, hl]) (by decide) (by decide) (by decide) (by decide) (by decide) (by decide) (by decide) (by decide) (by decide) (by decide)
theorem refQ1_any (V : Value) (l : List UInt32) (w : World) (hV : Own w 0 44 W64 V (dbl l 1)) (hl : l.length = 16) :
    Calls Tryd.prog 113 #[V, .int .i64 1, .int .i64 5, .int .i64 9, .int .i64 13] w fun e w' => ∃ V', e = .returned V' ∧ Own w' w.heap.size 44 W64 V' (dbl l 2) ∧ Below w.heap.size w w' :=
  refQuarter_any V (dbl l 1) 1 5 9 13 w hV (by rw [length_dbl, hl]) (by decide) (by decide) (by decide) (by decide) (by decide) (by decide) (by decide) (by decide) (by decide) (by decide)
theorem refQ2_any (V : Value) (l : List UInt32) (w : World) (hV : Own w 0 44 W64 V (dbl l 2)) (hl : l.length = 16) :
    Calls Tryd.prog 113 #[V, .int .i64 2, .int .i64 6, .int .i64 10, .int .i64 14] w fun e w' => ∃ V', e = .returned V' ∧ Own w' w.heap.size 44 W64 V' (dbl l 3) ∧ Below w.heap.size w w' :=
  refQuarter_any V (dbl l 2) 2 6 10 14 w hV (by rw [length_dbl, hl]) (by decide) (by decide) (by decide) (by decide) (by decide) (by decide) (by decide) (by decide) (by decide) (by decide)
theorem refQ3_any (V : Value) (l : List UInt32) (w : World) (hV : Own w 0 44 W64 V (dbl l 3)) (hl : l.length = 16) :
    Calls Tryd.prog 113 #[V, .int .i64 3, .int .i64 7, .int .i64 11, .int .i64 15] w fun e w' => ∃ V', e = .returned V' ∧ Own w' w.heap.size 44 W64 V' (dbl l 4) ∧ Below w.heap.size w w' :=
  refQuarter_any V (dbl l 3) 3 7 11 15 w hV (by rw [length_dbl, hl]) (by decide) (by decide) (by decide) (by decide) (by decide) (by decide) (by decide) (by decide) (by decide) (by decide)
theorem refQ4_any (V : Value) (l : List UInt32) (w : World) (hV : Own w 0 44 W64 V (dbl l 4)) (hl : l.length = 16) :
    Calls Tryd.prog 113 #[V, .int .i64 0, .int .i64 5, .int .i64 10, .int .i64 15] w fun e w' => ∃ V', e = .returned V' ∧ Own w' w.heap.size 44 W64 V' (dbl l 5) ∧ Below w.heap.size w w' :=
  refQuarter_any V (dbl l 4) 0 5 10 15 w hV (by rw [length_dbl, hl]) (by decide) (by decide) (by decide) (by decide) (by decide) (by decide) (by decide) (by decide) (by decide) (by decide)
theorem refQ5_any (V : Value) (l : List UInt32) (w : World) (hV : Own w 0 44 W64 V (dbl l 5)) (hl : l.length = 16) :
    Calls Tryd.prog 113 #[V, .int .i64 1, .int .i64 6, .int .i64 11, .int .i64 12] w fun e w' => ∃ V', e = .returned V' ∧ Own w' w.heap.size 44 W64 V' (dbl l 6) ∧ Below w.heap.size w w' :=
  refQuarter_any V (dbl l 5) 1 6 11 12 w hV (by rw [length_dbl, hl]) (by decide) (by decide) (by decide) (by decide) (by decide) (by decide) (by decide) (by decide) (by decide) (by decide)
theorem refQ6_any (V : Value) (l : List UInt32) (w : World) (hV : Own w 0 44 W64 V (dbl l 6)) (hl : l.length = 16) :
    Calls Tryd.prog 113 #[V, .int .i64 2, .int .i64 7, .int .i64 8, .int .i64 13] w fun e w' => ∃ V', e = .returned V' ∧ Own w' w.heap.size 44 W64 V' (dbl l 7) ∧ Below w.heap.size w w' :=
  refQuarter_any V (dbl l 6) 2 7 8 13 w hV (by rw [length_dbl, hl]) (by decide) (by decide) (by decide) (by decide) (by decide) (by decide) (by decide) (by decide) (by decide) (by decide)
theorem refQ7_any (V : Value) (l : List UInt32) (w : World) (hV : Own w 0 44 W64 V (dbl l 7)) (hl : l.length = 16) :
    Calls Tryd.prog 113 #[V, .int .i64 3, .int .i64 4, .int .i64 9, .int .i64 14] w fun e w' => ∃ V', e = .returned V' ∧ Own w' w.heap.size 44 W64 V' (dbl l 8) ∧ Below w.heap.size w w' :=
  refQuarter_any V (dbl l 7) 3 4 9 14 w hV (by rw [length_dbl, hl]) (by decide) (by decide) (by decide) (by decide) (by decide) (by decide) (by decide) (by decide) (by decide) (by decide)
theorem sigma_words : leWords (ByteArray.mk #[101, 120, 112, 97, 110, 100, 32, 51, 50, 45, 98, 121, 116, 101, 32, 107]).data.toList 4 = sigma := by decide
theorem infoU8 : (Tryd.prog.info? 5).map (fun i => (i.zero, i.size, i.bytes)) = some (some (.int .u8 0), 1, 1) := by kernel_rfl
theorem byteL_ref (y : UInt32) : IntKind.u8.wrap (n32 y % 256) = n8 (byteL y 0) ∧ IntKind.u8.wrap (n32 y / 256 % 256) = n8 (byteL y 1) ∧ IntKind.u8.wrap (n32 y / 65536 % 256) = n8 (byteL y 2) ∧ IntKind.u8.wrap (n32 y / 16777216) = n8 (byteL y 3) := by
  have h : ∀ k, k < 4 → n8 (byteL y k) = n32 y / 2 ^ (8 * k) % 256 := fun k hk => by rw [← byteL_eq y k hk, wrap_u8]
  have h0 := n32_nonneg y
  refine ⟨?_, ?_, ?_, ?_⟩
  · rw [h 0 (by omega), wrap_u8]; simp
  · rw [h 1 (by omega), wrap_u8]; simp
  · rw [h 2 (by omega), wrap_u8]; simp
  · rw [h 3 (by omega), wrap_u8]; simp
def BRf (w : World) (V at_ : Value) (l m : List UInt32) (wr : World) : Prop := Own wr w.heap.size 44 W64 V m ∧ Own wr w.heap.size 44 W64 at_ l ∧ Below w.heap.size w wr
def BOut (w : World) (gx cx ga ca : Nat) (l : List UInt32) (j : Nat) (V : Value) (wx : World) : Prop :=
  Own wx w.heap.size 5 U8 V (outBytes ((cSums l).take j)) ∧ Own wx w.heap.size 44 W64 (.slice (some ⟨gx, 0, none⟩) 16 cx) (rnds l 10) ∧ Own wx w.heap.size 44 W64 (.slice (some ⟨ga, 0, none⟩) 16 ca) l ∧ Below w.heap.size w wx
set_option maxHeartbeats 1000000 in
set_option maxRecDepth 100000 in
theorem refCblock_any (K N : ByteArray) (C : UInt32) (c : Int) (w : World) (hK : K.size = 32) (hN : N.size = 12) (h0 : 0 ≤ c) (hc : c % 4294967296 = n32 C) :
    Calls Tryd.prog 90 #[.string K, .int .u64 c, .string N] w fun e w' => e = .returned (.string ⟨(cBlock K.data.toList C N.data.toList).toArray⟩) ∧ Below w.heap.size w w' := by
  obtain ⟨i0, hi, hz0, hz1, hz2⟩ := info_parts infoU64
  obtain ⟨i8, hi8, hy0, hy1, hy2⟩ := info_parts infoU8
  have H8 := hid (And.intro hi8 (And.intro hy0 (And.intro hy1 hy2)))
  clear hi8 hy0 hy1 hy2
  have HC := hid hc
  clear hc
  go_enter Tryd.func90, Tryd.ntmps90
  go_wp2_with fail
  refine (words_any _ 4 w (by decide) (by omega)).mono ?_
  rintro e w1 ⟨V1, rfl, ho1, hb1⟩
  rw [sigma_words] at ho1
  go_wp2_with fail
  refine (words_any K 8 w1 (by rw [hK]) (by omega)).mono ?_
  rintro e w2 ⟨V2, rfl, ho2, hb2⟩
  have ho1b := ho1.below hb2 (Nat.le_refl _)
  have hbel2 : Below w.heap.size w w2 := hb1.trans (hb2.mono hb1.size)
  obtain ⟨V3, w3, hrun, ho3, hg3⟩ := run_append_rows (P := Tryd.prog) w2 w.heap.size w1.heap.size 157 157 44 i0 _ 8 W64 (fun _ => rfl) Tryd.underlying157 hi hz0 hz1 hz2 rfl V1 V2 sigma (leWords K.data.toList 8) ho1b ho2 (by rw [length_leWords]; decide) (by omega) hbel2.size
  have hbel3 : Below w.heap.size w w3 := hbel2.trans (ho1b.below_of hg3 hbel2.size)
  have HR := hid hrun
  clear hrun ho1 ho2 ho1b hb1 hb2 hg3 hbel2
  have hl3 := length_leWords K.data.toList 8
  have hs3 := hbel3.size
  have HCW : Hid (Value.int .u64 (c % 4294967296) = W64 C) := hid (by rw [HC.out])
  go_wp2_with (first
    | (at_builtin; refine Lib.wpList_append_run _ rfl (.tmp 13) (.tmp 15) _ _ rfl _ _ rfl rfl _ _ HR.out ?_)
    | (at_builtin; refine wpList_append_lit rfl (.tmp 17) (.tmp 20) 157 rfl w.heap.size 44 i0 _ 8 W64 (fun _ => rfl) Tryd.underlying157 hi hz0 hz1 hz2 rfl (by omega) _ _ [C] 1 rfl rfl (ho3.alloc _) _ 0 1 rfl (new_lit _ _ _ _ (by rw [HCW.out]; rfl)) (by simp [hl3, sigma]) (by simp <;> omega) ?_
       intro V4 w4 ho4 _ hb4))
  have hbel4 : Below w.heap.size w w4 := (hbel3.alloc hs3 _).trans hb4
  clear hb4 HR ho3 hbel3
  refine (words_any N 3 w4 (by rw [hN]) (by omega)).mono ?_
  rintro e w5 ⟨V5, rfl, ho5, hb5⟩
  have ho4b := ho4.below hb5 (Nat.le_refl _)
  have hbel5 : Below w.heap.size w w5 := hbel4.trans (hb5.mono hbel4.size)
  obtain ⟨V6, w6, hrun, ho6, hg6⟩ := run_append_rows (P := Tryd.prog) w5 w.heap.size w4.heap.size 157 157 44 i0 _ 8 W64 (fun _ => rfl) Tryd.underlying157 hi hz0 hz1 hz2 rfl V4 V5 _ (leWords N.data.toList 3) ho4b ho5 (by simp [length_leWords, sigma]) (by omega) hbel5.size
  have hbel6 : Below w.heap.size w w6 := hbel5.trans (ho4b.below_of hg6 hbel5.size)
  have HR := hid hrun
  obtain ⟨l, hl0⟩ : ∃ l, l = cInit K.data.toList C N.data.toList := ⟨_, rfl⟩
  rw [show sigma ++ leWords K.data.toList 8 ++ [C] ++ leWords N.data.toList 3 = l from hl0.symm] at ho6
  have hl : l.length = 16 := by rw [hl0, length_cInit]
  have hout : cBlock K.data.toList C N.data.toList = outBytes (cSums l) := by rw [cBlock, hl0]
  have HOUT := hid hout
  have HL := hid hl
  clear hrun ho4 ho5 ho4b hb5 hg6 hbel5 hbel4 hl3 hs3 hl0 hout hl
  go_wp2_with (at_builtin; refine Lib.wpList_append_run _ rfl (.tmp 22) (.tmp 24) _ _ rfl _ _ rfl rfl _ _ HR.out ?_)
  clear hi hz0 hz1 hz2 hK hN h0
  have hK0 : BRf w V6 V6 l (rnds l 0) w6 := ⟨ho6, ho6, hbel6⟩
  clear ho6 hbel6 HR
  go_loopw [8, 9] (fun V i wr => ∃ k : Nat, k ≤ 10 ∧ i = .int .i64 k ∧ BRf w V V6 l (rnds l k) wr) (fun _ i _ => 10 - (intOf i).toNat)
  case atStart => exact ⟨0, Nat.zero_le _, rfl, hK0⟩
  case round =>
    clear hK0
    obtain ⟨k, hk, rfl, hR⟩ := hrel
    by_cases hlt : k < 10
    · obtain ⟨hv0, hat, hbel⟩ := hR
      have hml : (rnds l k).length = 16 := by rw [length_rnds, HL.out]
      obtain ⟨m, hm⟩ : ∃ m, m = rnds l k := ⟨_, rfl⟩
      have hnx : rnds l (k + 1) = dbl m 8 := by rw [rnds, hm]
      rw [← hm] at hv0 hml
      have HNX := hid hnx
      have HML := hid hml
      clear hm hnx hml
      have hv0' : Own wr w.heap.size 44 W64 _ (dbl m 0) := hv0
      clear hv0
      have hd : decide ((k : Int) < 10) = true := by simp; omega
      go_wp2_with fail
      refine (refQ0_any _ m _ (hv0'.mono (Nat.zero_le _)) HML.out).mono ?_
      rintro e z1 ⟨Z1, rfl, hv1, hbz1⟩
      have hat1 := hat.below hbz1 (Nat.le_refl _)
      have hbel1 := hbel.trans (hbz1.mono hbel.size)
      have _hsz1 := hbel.size
      clear hv0' hat hbel hbz1
      go_wp2_with fail
      refine (refQ1_any _ m _ (hv1.mono (Nat.zero_le _)) HML.out).mono ?_
      rintro e z2 ⟨Z2, rfl, hv2, hbz2⟩
      have hat2 := hat1.below hbz2 (Nat.le_refl _)
      have hbel2 := hbel1.trans (hbz2.mono hbel1.size)
      have _hsz2 := hbel1.size
      clear hv1 hat1 hbel1 hbz2
      go_wp2_with fail
      refine (refQ2_any _ m _ (hv2.mono (Nat.zero_le _)) HML.out).mono ?_
      rintro e z3 ⟨Z3, rfl, hv3, hbz3⟩
      have hat3 := hat2.below hbz3 (Nat.le_refl _)
      have hbel3 := hbel2.trans (hbz3.mono hbel2.size)
      have _hsz3 := hbel2.size
      clear hv2 hat2 hbel2 hbz3
      go_wp2_with fail
      refine (refQ3_any _ m _ (hv3.mono (Nat.zero_le _)) HML.out).mono ?_
      rintro e z4 ⟨Z4, rfl, hv4, hbz4⟩
      have hat4 := hat3.below hbz4 (Nat.le_refl _)
      have hbel4 := hbel3.trans (hbz4.mono hbel3.size)
      have _hsz4 := hbel3.size
      clear hv3 hat3 hbel3 hbz4
      go_wp2_with fail
      refine (refQ4_any _ m _ (hv4.mono (Nat.zero_le _)) HML.out).mono ?_
      rintro e z5 ⟨Z5, rfl, hv5, hbz5⟩
      have hat5 := hat4.below hbz5 (Nat.le_refl _)
      have hbel5 := hbel4.trans (hbz5.mono hbel4.size)
      have _hsz5 := hbel4.size
      clear hv4 hat4 hbel4 hbz5
      go_wp2_with fail
      refine (refQ5_any _ m _ (hv5.mono (Nat.zero_le _)) HML.out).mono ?_
      rintro e z6 ⟨Z6, rfl, hv6, hbz6⟩
      have hat6 := hat5.below hbz6 (Nat.le_refl _)
      have hbel6 := hbel5.trans (hbz6.mono hbel5.size)
      have _hsz6 := hbel5.size
      clear hv5 hat5 hbel5 hbz6
      go_wp2_with fail
      refine (refQ6_any _ m _ (hv6.mono (Nat.zero_le _)) HML.out).mono ?_
      rintro e z7 ⟨Z7, rfl, hv7, hbz7⟩
      have hat7 := hat6.below hbz7 (Nat.le_refl _)
      have hbel7 := hbel6.trans (hbz7.mono hbel6.size)
      have _hsz7 := hbel6.size
      clear hv6 hat6 hbel6 hbz7
      go_wp2_with fail
      refine (refQ7_any _ m _ (hv7.mono (Nat.zero_le _)) HML.out).mono ?_
      rintro e z8 ⟨Z8, rfl, hv8, hbz8⟩
      have hat8 := hat7.below hbz8 (Nat.le_refl _)
      have hbel8 := hbel7.trans (hbz8.mono hbel7.size)
      have hsz8 := hbel7.size
      clear hv7 hat7 hbel7 hbz8
      go_wp2
      go_roundw
      case rel => exact ⟨k + 1, by omega, by go_num, by rw [HNX.out]; exact ⟨hv8.mono hsz8, hat8, hbel8⟩⟩
      case measure => simp [intOf]; omega
    · have hd : decide ((k : Int) < 10) = false := by simp; omega
      rw [show k = 10 by omega] at hR
      obtain ⟨hv, hat, hbel⟩ := hR
      have hml : (rnds l 10).length = 16 := by rw [length_rnds, HL.out]
      have hsz := hbel.size
      rcases hv.form with ⟨_, e⟩ | ⟨gx, cx, rfl, hgx, hgx2, _, _⟩
      · rw [e] at hml; exact absurd hml (by decide)
      rcases hat.form with ⟨_, e⟩ | ⟨ga, ca, rfl, hga, hga2, _, _⟩
      · have := HL.out; rw [e] at this; exact absurd this (by decide)
      have HML := hid hml
      rw [hml] at hv ⊢
      clear hml
      have hlen := HL.out
      rw [hlen] at hat ⊢
      clear hlen
      have hone : Own (wr.alloc (.cells #[] 5)) w.heap.size 5 U8 (.slice (some ⟨wr.heap.size, 0, none⟩) 0 0) (outBytes ((cSums l).take 0)) := Own.new (α := UInt8) wr w.heap.size 5 U8 [] hsz (Nat.zero_le _)
      go_wp2
      go_loopw [10, 11, 50] (fun V _ i wx => ∃ j : Nat, j ≤ 16 ∧ i = .int .i64 j ∧ BOut w gx cx ga ca l j V wx) (fun _ _ i _ => 16 - (intOf i).toNat)
      case atStart => exact ⟨0, Nat.zero_le _, rfl, hone, hv.alloc _, hat.alloc _, hbel.alloc hsz _⟩
      case round =>
        clear hone hv hat hbel hsz
        obtain ⟨j, hj, rfl, ho, hv, hat, hbel⟩ := hrel
        by_cases hlt2 : j < 16
        · have hd2 : decide ((j : Int) < 16) = true := by simp; omega
          have cv := Own.cell (l := rnds l 10) (by rw [HML.out]; exact hv) 0 j (by rw [HML.out]; exact hlt2)
          have ca := Own.cell (l := l) (by rw [HL.out]; exact hat) 0 j (by rw [HL.out]; exact hlt2)
          have hjl : j < (cSums l).length := by rw [length_cSums, HL.out]; exact hlt2
          have hsum : (cSums l).getD j 0 = (rnds l 10).getD j 0 + l.getD j 0 := cSums_get l j (by rw [HL.out]; omega)
          have hnx := outBytes_succ (cSums l) j hjl
          have hge : (cSums l)[j] = (cSums l).getD j 0 := by rw [List.getD_eq_getElem?_getD, List.getElem?_eq_getElem hjl]; rfl
          rw [hge, hsum] at hnx
          obtain ⟨X, hX⟩ : ∃ x, x = (rnds l 10).getD j 0 := ⟨_, rfl⟩
          obtain ⟨Y, hY⟩ : ∃ x, x = l.getD j 0 := ⟨_, rfl⟩
          rw [← hX] at cv hnx
          rw [← hY] at ca hnx
          have hol : (outBytes ((cSums l).take j)).length = 4 * j := by rw [length_outBytes, List.length_take]; omega
          have HOL := hid hol
          have HNX := hid hnx
          have hadd := add_w64 X Y
          obtain ⟨y0, y1, y2, y3⟩ := byteL_ref (X + Y)
          have hp := n32_nonneg (X + Y)
          have hle : (0 : Int) ≤ IntKind.u64.wrap (n32 X + n32 Y) := by have := n32_nonneg X; have := n32_nonneg Y; rw [wrap_u64]; omega
          have hji : (j : Int) < 16 := by omega
          have hjp : (0 : Int) ≤ j := by omega
          have hsz := hbel.size
          clear hX hY hge hsum hnx hol
          go_wp2
          go_quiet (fail)
          go_wp2_with (at_builtin; refine wpList_append_lit rfl (.tmp 63) (.tmp 78) 23 rfl w.heap.size 5 _ _ 1 U8 (fun _ => rfl) Tryd.underlying23 H8.out.1 H8.out.2.1 H8.out.2.2.1 H8.out.2.2.2 rfl (by omega) _ _ (wordBytes (X + Y)) 4 rfl rfl ((ho.drewN _).alloc _) _ 0 4 rfl (new_lit _ _ _ _ rfl) (by rw [HOL.out]; omega) (by simp <;> omega) ?_
                       intro V2 wz ho2 hg2 hbz)
          have hv2 := ((hv.drewN _).alloc _).grown hg2 (hv.apart ho (by decide))
          have hat2 := ((hat.drewN _).alloc _).grown hg2 (hat.apart ho (by decide))
          have hbel2 := ((below_drewN hbel _).alloc hsz _).trans hbz
          clear hg2 hbz hv hat hbel ho
          go_roundw
          case rel => exact ⟨j + 1, by omega, by go_num, by rw [HNX.out]; exact ho2, hv2, hat2, hbel2⟩
          case measure => simp [intOf]; omega
        · have hd2 : decide ((j : Int) < 16) = false := by simp; omega
          rw [show j = 16 by omega, List.take_of_length_le (by rw [length_cSums, HL.out]; omega)] at ho
          have hol : (outBytes (cSums l)).length = 64 := by rw [length_outBytes, length_cSums, HL.out]
          rcases ho.form with ⟨_, e⟩ | ⟨gz, cz, rfl, _, _, _, _⟩
          · rw [e] at hol; exact absurd hol (by decide)
          rw [hol] at ho ⊢
          have HOL := hid hol
          have hby : Bytes wr gz 0 (outBytes (cSums l)) := fun j hj => by
            have := ho.cells (g := gz) rfl j (U8 ((outBytes (cSums l))[j])) (by simp [hj])
            rw [addr_add] at this
            rw [Nat.zero_add]
            exact this
          clear hol hv hat
          go_wp2_with (refine wpList_string_of _ rfl 23 9 5 (.tmp 81) rfl Tryd.underlying23 Tryd.underlying5 Tryd.underlying9 gz 0 64 cz (outBytes (cSums l)) rfl HOL.out hby ?_)
          go_ret
          exact ⟨by rw [HOUT.out]; rfl, hbel⟩
end Go.Proofs.YtgblhjmnenmlkaaDoor
namespace Go.Proofs.YtgblhjmnenmlkaaDoor
open Go.RowKit
theorem run_string_own {P : Program} {w : World} {base : Nat} {v : Value} {l : List UInt8} (s d e : TypeId) (h : Own w base e U8 v l) (hs : P.underlying s = some (.slice e)) (he : P.underlying e = some (.int .u8)) (hd : P.underlying d = some .string) :
    (convert s d v).run P w = .ok (.string ⟨l.toArray⟩) w := by
  rcases h.form with ⟨rfl, rfl⟩ | ⟨g, cap, rfl, _⟩
  · exact run_convert_bytes_nil w s e hs he 0 0 d hd
  · exact run_convert_bytes_back w s d e _ cap l hs he hd (cells_of_bytes h.bytes)
theorem wpList_string_own {P : Program} {w : World} {ops : Array Oper} {rest : List Oper} {o : Oper} {a : Act} {Q : Exit → Act → World → Prop} (hgd : o.guard = none) (s d e : TypeId) (x : Operand)
    (ho : o.op = .convert s d x) (hs : P.underlying s = some (.slice e)) (he : P.underlying e = some (.int .u8)) (hd : P.underlying d = some .string) (base : Nat) (v : Value) (l : List UInt8) (hown : Own w base e U8 v l) (hx : a.eval x = v)
    (h : wpList P ops Q rest (a.put o.dst (.string ⟨l.toArray⟩)) w) : wpList P ops Q (o :: rest) a w :=
  wpList_convert_run w hgd s d x ho v hx _ _ (run_string_own s d e hown hs he hd) h
end Go.Proofs.YtgblhjmnenmlkaaDoor
namespace Go.Proofs.YtgblhjmnenmlkaaDoor
open Go.RowKit

def XR (w : World) (K N S : ByteArray) (C : UInt32) (n : Nat) (V b i : Value) (wr : World) : Prop :=
  ∃ (j : Nat) (B : List UInt8), j ≤ n ∧ i = .int .i64 j ∧ b = .string ⟨B.toArray⟩ ∧ Own wr w.heap.size 5 U8 V ((cXor K.data.toList C N.data.toList S.data.toList).take j) ∧ Below w.heap.size w wr ∧ (j = 0 ∨ B = cBlock K.data.toList (C + UInt32.ofNat ((j - 1) / 64)) N.data.toList)
theorem cXor_take (key nonce s : List UInt8) (C : UInt32) (i : Nat) (h : i < s.length) : (cXor key C nonce s).take (i + 1) = (cXor key C nonce s).take i ++ [s.getD i 0 ^^^ (cBlock key (C + UInt32.ofNat (i / 64)) nonce).getD (i % 64) 0] := by
  have h2 : i < (cXor key C nonce s).length := by rw [length_cXor]; exact h
  have e := get_cXor key C nonce s i h
  rw [List.getElem?_eq_getElem h2] at e
  rw [List.take_succ_eq_append_getElem h2, Option.some.inj e, List.getD_eq_getElem?_getD (l := s), List.getElem?_eq_getElem h]
  rfl
set_option maxHeartbeats 1000000 in
set_option maxRecDepth 100000 in
theorem refCxor_any (K N S : ByteArray) (C : UInt32) (w : World) (hK : K.size = 32) (hN : N.size = 12) (hS : S.size ≤ 1000000) :
    Calls Tryd.prog 64 #[.string K, .int .u64 (n32 C), .string N, .string S] w fun e w' => e = .returned (.string ⟨(cXor K.data.toList C N.data.toList S.data.toList).toArray⟩) ∧ Below w.heap.size w w' := by
  obtain ⟨i8, hi8, hy0, hy1, hy2⟩ := info_parts infoU8
  have H8 := hid (And.intro hi8 (And.intro hy0 (And.intro hy1 hy2)))
  clear hi8 hy0 hy1 hy2
  have HK := hid hK
  have HN := hid hN
  clear hK hN
  go_enter Tryd.func64, Tryd.ntmps64
  have hone : Own (w.alloc (.cells #[] 5)) w.heap.size 5 U8 (.slice (some ⟨w.heap.size, 0, none⟩) 0 0) ((cXor K.data.toList C N.data.toList S.data.toList).take 0) := Own.new (α := UInt8) w w.heap.size 5 U8 [] (Nat.le_refl _) (Nat.zero_le _)
  go_wp2
  go_loopw [9, 10, 11] (fun V b i wr => XR w K N S C S.size V b i wr) (fun _ _ i _ => S.size - (intOf i).toNat)
  case atStart => exact ⟨0, [], Nat.zero_le _, rfl, rfl, hone, (Below.refl _ _).alloc (Nat.le_refl _) _, Or.inl rfl⟩
  case round =>
    clear hone
    obtain ⟨i, B0, hi, rfl, rfl, hown, hbel, hor⟩ := hrel
    by_cases hlt : i < S.size
    · have hd : decide ((i : Int) < (S.size : Int)) = true := by simp; omega
      have hnx := cXor_take K.data.toList N.data.toList S.data.toList C i hlt
      have hln : ((cXor K.data.toList C N.data.toList S.data.toList).take i).length = i := by rw [List.length_take, length_cXor]; exact Nat.min_eq_left hi
      have HLN := hid hln
      have hbx := byte_at S i hlt
      obtain ⟨x, hx⟩ : ∃ x, x = S.data.toList.getD i 0 := ⟨_, rfl⟩
      rw [← hx] at hnx hbx
      have hi0 : (0 : Int) ≤ i := by omega
      have hi1 : (i : Int) < S.size := by omega
      have htm : (i : Int).tmod 64 = (i : Int) % 64 := Int.tmod_eq_emod_of_nonneg (by omega)
      have hm0 : (0 : Int) ≤ (i : Int).tmod 64 := by rw [htm]; omega
      by_cases h64 : i % 64 = 0
      · have ht : ((i : Int) % 64 == 0) = true := by simp; omega
        have hq : IntKind.u64.wrap ((i : Int) / 64) = (i : Int) / 64 := by rw [wrap_u64]; omega
        have hc0 := n32_nonneg C
        have hc1 := n32_lt C
        have hs : IntKind.u64.wrap (n32 C + (i : Int) / 64) = n32 C + (i : Int) / 64 := by rw [wrap_u64]; omega
        have hc : (n32 C + (i : Int) / 64) % 4294967296 = n32 (C + UInt32.ofNat (i / 64)) := by
          rw [← add_n32', ← lit_n32 _ (by omega)]; omega
        have HNX0 := hid hnx
        have HX := hid hx
        have HBX := hid hbx
        have HCC := hid hc
        clear hnx hx hbx hln hor hc
        go_wp2_with fail
        refine (refCblock_any K N (C + UInt32.ofNat (i / 64)) _ wr HK.out HN.out (by omega) HCC.out).mono ?_
        rintro e w1 ⟨rfl, hb1⟩
        have hown1 := hown.below hb1 (Nat.le_refl _)
        have hbel1 := hbel.trans (hb1.mono hbel.size)
        obtain ⟨B, hB⟩ : ∃ B, B = cBlock K.data.toList (C + UInt32.ofNat (i / 64)) N.data.toList := ⟨_, rfl⟩
        rw [← hB]
        have hnx := HNX0.out
        rw [← hB] at hnx
        have hBl : (ByteArray.mk B.toArray).size = 64 := by show B.toArray.size = 64; rw [List.size_toArray, hB, length_cBlock]
        have hbyl : i % 64 < (ByteArray.mk B.toArray).size := by rw [hBl]; omega
        have hby := byte_at ⟨B.toArray⟩ (i % 64) hbyl
        obtain ⟨y, hy⟩ : ∃ y, y = B.getD (i % 64) 0 := ⟨_, rfl⟩
        rw [← hy] at hnx
        have HB := hid (show B = cBlock K.data.toList (C + UInt32.ofNat (i / 64)) N.data.toList from hB)
        have HNX := hid hnx
        have hbz : (i : Int).tmod 64 < (B.length : Int) := by rw [htm, hB, length_cBlock]; omega
        have HV : Hid (∀ g0 g1, Value.int .u8 (bits .xor .u8 ((S[i]'g0).toNat : Int) (((ByteArray.mk B.toArray)[((i : Int).tmod 64).toNat]'g1).toNat : Int)) = U8 (x ^^^ y)) := hid (by
          intro g0 g1
          have t1 : ((i : Int).tmod 64).toNat = i % 64 := by rw [htm]; omega
          have e1 : ((S[i]'g0).toNat : Int) = n8 x := HBX.out
          have e2 : (((ByteArray.mk B.toArray)[((i : Int).tmod 64).toNat]'g1).toNat : Int) = n8 y := by
            simp only [t1, hby, hy]
          rw [e1, e2, xor_n8])
        clear hnx hB hy hby hBl htm hown hbel hb1 HNX0 ht hq hs hc0 hc1
        go_wp2
        refine wp_region_held_drew (S := fun _ => True) (by kernel_rfl) trivial (fun hHeldw => ?_)
        refine wpAnyH_take (i := 0) (oi := _) (v := ?vw0) rfl (by kernel_rfl) (by kernel_rfl) (by kernel_rfl) (fun _ _ _ h => h) (Or.inl ⟨by rfl, ?hyw0⟩) hHeldw ?_
        case hyw0 => (intro w hSw; go_simp; rfl)
        try simp only [Act.put]
        refine wpAnyH_take (i := 1) (oi := _) (v := ?vw1) rfl (by kernel_rfl) (by kernel_rfl) (by kernel_rfl) (fun _ _ _ h => h) (Or.inl ⟨by rfl, ?hyw1⟩) hHeldw ?_
        case hyw1 => (intro w hSw; go_simp; rfl)
        try simp only [Act.put]
        refine wpAnyH_take (i := 2) (oi := _) (v := ?vw2) rfl (by kernel_rfl) (by kernel_rfl) (by kernel_rfl) (fun _ _ _ h => h) (Or.inl ⟨by rfl, ?hyw2⟩) hHeldw ?_
        case hyw2 => (intro w hSw; go_simp; rfl)
        try simp only [Act.put]
        refine wpAnyH_take (i := 3) (oi := _) (v := ?vw3) rfl (by kernel_rfl) (by kernel_rfl) (by kernel_rfl) (fun _ _ _ h => h) (Or.inl ⟨by rfl, ?hyw3⟩) hHeldw ?_
        case hyw3 => (intro w hSw; go_simp; rfl)
        try simp only [Act.put]
        refine wpAnyH_take (i := 4) (oi := _) (v := ?vw4) rfl (by kernel_rfl) (by kernel_rfl) (by kernel_rfl) (fun _ _ _ h => h) (Or.inl ⟨by rfl, ?hyw4⟩) hHeldw ?_
        case hyw4 => (intro w hSw; go_simp; rfl)
        try simp only [Act.put]
        refine wpAnyH_take (i := 5) (oi := _) (v := ?vw5) rfl (by kernel_rfl) (by kernel_rfl) (by kernel_rfl) (fun _ _ _ h => h) (Or.inl ⟨by rfl, ?hyw5⟩) hHeldw ?_
        case hyw5 => (intro w hSw; go_simp; rfl)
        try simp only [Act.put]
        refine wpAnyH_take (i := 6) (oi := _) (v := ?vw6) rfl (by kernel_rfl) (by kernel_rfl) (by kernel_rfl) (fun _ _ _ h => h) (Or.inl ⟨by rfl, ?hyw6⟩) hHeldw ?_
        case hyw6 => (intro w hSw; go_simp; rfl)
        try simp only [Act.put]
        refine wpAnyH_take (i := 7) (oi := _) (v := ?vw7) rfl (by kernel_rfl) (by kernel_rfl) (by kernel_rfl) (fun _ _ _ h => h) (Or.inl ⟨by rfl, ?hyw7⟩) hHeldw ?_
        case hyw7 => (intro w hSw; go_simp; rfl)
        try simp only [Act.put]
        refine wpAnyH_take (i := 8) (oi := _) (v := ?vw8) rfl (by kernel_rfl) (by kernel_rfl) (by kernel_rfl) (fun _ _ _ h => h) (Or.inl ⟨by rfl, ?hyw8⟩) hHeldw ?_
        case hyw8 => (intro w hSw; go_simp; rfl)
        try simp only [Act.put]
        refine wpAnyH_ready (rs := [9]) (by kernel_rfl) (by simp) ?_
        refine AllReadyH.cons (o := _) rfl (fun Kc hcont => ?_) AllReadyH.nil
        go_simp
        refine hcont.out _ _ trivial (fun hHeldw1 => ?_)
        clear hcont Kc
        refine wpAnyH_ready (rs := [10]) (by kernel_rfl) (by simp) ?_
        refine AllReadyH.cons (o := _) rfl (fun Kc hcont => ?_) AllReadyH.nil
        refine step_append_lit rfl (.tmp 30) (.tmp 39) 23 rfl w.heap.size 5 _ _ 1 U8 (fun _ => rfl) Tryd.underlying23 H8.out.1 H8.out.2.1 H8.out.2.2.1 H8.out.2.2.2 rfl (by omega) _ _ [x ^^^ y] 1 rfl rfl (hown1.drew.alloc _) _ 0 1 rfl (new_lit _ _ _ _ (by rw [HV.out]; rfl)) (by rw [HLN.out]; omega) (by simp <;> exact Nat.le_succ_of_le hbel1.size) ?_
        intro V2 wz hown2 _ hbz
        refine hcont.out _ _ trivial (fun hHeldw2 => ?_)
        clear hcont Kc
        refine wpAnyH_take (i := 11) (oi := _) (v := ?vw11) rfl (by kernel_rfl) (by kernel_rfl) (by kernel_rfl) (fun _ _ _ h => h) (Or.inl ⟨by rfl, ?hyw11⟩) hHeldw2 ?_
        case hyw11 => (intro w hSw; go_simp; rfl)
        try simp only [Act.put]
        refine wpAnyH_done (by kernel_rfl) ?_ _
        have hsz := hbel1.size
        have hbel2 : Below w.heap.size w wz := ((hbel1.drew).alloc (by simpa using hsz) _).trans hbz
        clear hbz
        go_wp2
        go_roundw
        case rel => exact ⟨i + 1, B, by omega, by go_num, rfl, by rw [HNX.out]; exact hown2, hbel2, Or.inr (by rw [HB.out]; congr 3)⟩
        case measure => simp [intOf]; omega
      · have hB : B0 = cBlock K.data.toList (C + UInt32.ofNat (i / 64)) N.data.toList := by
          rcases hor with h | h
          · omega
          · rw [h]; congr 3; omega
        have hcm : True := trivial
        have ht : ((i : Int) % 64 == 0) = false := by simp; omega
        have HBX := hid hbx
        have hnx0 := hnx
        clear hnx
        obtain ⟨B, rfl⟩ : ∃ B, B = B0 := ⟨_, rfl⟩
        have hnx := hnx0
        rw [← hB] at hnx
        have hBl : (ByteArray.mk B.toArray).size = 64 := by show B.toArray.size = 64; rw [List.size_toArray, hB, length_cBlock]
        have hbyl : i % 64 < (ByteArray.mk B.toArray).size := by rw [hBl]; omega
        have hby := byte_at ⟨B.toArray⟩ (i % 64) hbyl
        obtain ⟨y, hy⟩ : ∃ y, y = B.getD (i % 64) 0 := ⟨_, rfl⟩
        rw [← hy] at hnx
        have HB := hid (show B = cBlock K.data.toList (C + UInt32.ofNat (i / 64)) N.data.toList from hB)
        have HNX := hid hnx
        have hbz : (i : Int).tmod 64 < (B.length : Int) := by rw [htm, hB, length_cBlock]; omega
        have HV : Hid (∀ g0 g1, Value.int .u8 (bits .xor .u8 ((S[i]'g0).toNat : Int) (((ByteArray.mk B.toArray)[((i : Int).tmod 64).toNat]'g1).toNat : Int)) = U8 (x ^^^ y)) := hid (by
          intro g0 g1
          have t1 : ((i : Int).tmod 64).toNat = i % 64 := by rw [htm]; omega
          have e1 : ((S[i]'g0).toNat : Int) = n8 x := HBX.out
          have e2 : (((ByteArray.mk B.toArray)[((i : Int).tmod 64).toNat]'g1).toNat : Int) = n8 y := by
            simp only [t1, hby, hy]
          rw [e1, e2, xor_n8])
        clear hnx hB hy hby hBl htm hx hbx hln hor hcm
        clear hnx0
        go_wp2
        refine wp_region_held_drew (S := fun _ => True) (by kernel_rfl) trivial (fun hHeldv => ?_)
        refine wpAnyH_take (i := 0) (oi := _) (v := ?vv0) rfl (by kernel_rfl) (by kernel_rfl) (by kernel_rfl) (fun _ _ _ h => h) (Or.inl ⟨by rfl, ?hyv0⟩) hHeldv ?_
        case hyv0 => (intro w hSw; go_simp; rfl)
        try simp only [Act.put]
        refine wpAnyH_take (i := 1) (oi := _) (v := ?vv1) rfl (by kernel_rfl) (by kernel_rfl) (by kernel_rfl) (fun _ _ _ h => h) (Or.inl ⟨by rfl, ?hyv1⟩) hHeldv ?_
        case hyv1 => (intro w hSw; go_simp; rfl)
        try simp only [Act.put]
        refine wpAnyH_take (i := 2) (oi := _) (v := ?vv2) rfl (by kernel_rfl) (by kernel_rfl) (by kernel_rfl) (fun _ _ _ h => h) (Or.inl ⟨by rfl, ?hyv2⟩) hHeldv ?_
        case hyv2 => (intro w hSw; go_simp; rfl)
        try simp only [Act.put]
        refine wpAnyH_take (i := 3) (oi := _) (v := ?vv3) rfl (by kernel_rfl) (by kernel_rfl) (by kernel_rfl) (fun _ _ _ h => h) (Or.inl ⟨by rfl, ?hyv3⟩) hHeldv ?_
        case hyv3 => (intro w hSw; go_simp; rfl)
        try simp only [Act.put]
        refine wpAnyH_take (i := 4) (oi := _) (v := ?vv4) rfl (by kernel_rfl) (by kernel_rfl) (by kernel_rfl) (fun _ _ _ h => h) (Or.inl ⟨by rfl, ?hyv4⟩) hHeldv ?_
        case hyv4 => (intro w hSw; go_simp; rfl)
        try simp only [Act.put]
        refine wpAnyH_take (i := 5) (oi := _) (v := ?vv5) rfl (by kernel_rfl) (by kernel_rfl) (by kernel_rfl) (fun _ _ _ h => h) (Or.inl ⟨by rfl, ?hyv5⟩) hHeldv ?_
        case hyv5 => (intro w hSw; go_simp; rfl)
        try simp only [Act.put]
        refine wpAnyH_take (i := 6) (oi := _) (v := ?vv6) rfl (by kernel_rfl) (by kernel_rfl) (by kernel_rfl) (fun _ _ _ h => h) (Or.inl ⟨by rfl, ?hyv6⟩) hHeldv ?_
        case hyv6 => (intro w hSw; go_simp; rfl)
        try simp only [Act.put]
        refine wpAnyH_take (i := 7) (oi := _) (v := ?vv7) rfl (by kernel_rfl) (by kernel_rfl) (by kernel_rfl) (fun _ _ _ h => h) (Or.inl ⟨by rfl, ?hyv7⟩) hHeldv ?_
        case hyv7 => (intro w hSw; go_simp; rfl)
        try simp only [Act.put]
        refine wpAnyH_take (i := 8) (oi := _) (v := ?vv8) rfl (by kernel_rfl) (by kernel_rfl) (by kernel_rfl) (fun _ _ _ h => h) (Or.inl ⟨by rfl, ?hyv8⟩) hHeldv ?_
        case hyv8 => (intro w hSw; go_simp; rfl)
        try simp only [Act.put]
        refine wpAnyH_ready (rs := [9]) (by kernel_rfl) (by simp) ?_
        refine AllReadyH.cons (o := _) rfl (fun Kc hcont => ?_) AllReadyH.nil
        go_simp
        refine hcont.out _ _ trivial (fun hHeldv1 => ?_)
        clear hcont Kc
        refine wpAnyH_ready (rs := [10]) (by kernel_rfl) (by simp) ?_
        refine AllReadyH.cons (o := _) rfl (fun Kc hcont => ?_) AllReadyH.nil
        refine step_append_lit rfl (.tmp 30) (.tmp 39) 23 rfl w.heap.size 5 _ _ 1 U8 (fun _ => rfl) Tryd.underlying23 H8.out.1 H8.out.2.1 H8.out.2.2.1 H8.out.2.2.2 rfl (by omega) _ _ [x ^^^ y] 1 rfl rfl (hown.drew.alloc _) _ 0 1 rfl (new_lit _ _ _ _ (by rw [HV.out]; rfl)) (by rw [HLN.out]; omega) (by simp <;> exact Nat.le_succ_of_le hbel.size) ?_
        intro V2 wz hown2 _ hbz
        refine hcont.out _ _ trivial (fun hHeldv2 => ?_)
        clear hcont Kc
        refine wpAnyH_take (i := 11) (oi := _) (v := ?vv11) rfl (by kernel_rfl) (by kernel_rfl) (by kernel_rfl) (fun _ _ _ h => h) (Or.inl ⟨by rfl, ?hyv11⟩) hHeldv2 ?_
        case hyv11 => (intro w hSw; go_simp; rfl)
        try simp only [Act.put]
        refine wpAnyH_done (by kernel_rfl) ?_ _
        have hsz := hbel.size
        have hbel2 : Below w.heap.size w wz := ((hbel.drew).alloc (by simpa using hsz) _).trans hbz
        clear hbz
        go_wp2
        go_roundw
        case rel => exact ⟨i + 1, B, by omega, by go_num, rfl, by rw [HNX.out]; exact hown2, hbel2, Or.inr (by rw [HB.out]; congr 3)⟩
        case measure => simp [intOf]; omega
    · have hd : decide ((i : Int) < (S.size : Int)) = false := by simp; omega
      rw [List.take_of_length_le (by rw [length_cXor]; show S.size ≤ i; omega)] at hown
      go_wp2_with (refine wpList_string_own rfl 23 9 5 (.tmp 41) rfl Tryd.underlying23 Tryd.underlying5 Tryd.underlying9 _ _ _ hown rfl ?_)
      go_ret
      exact ⟨rfl, hbel⟩
end Go.Proofs.YtgblhjmnenmlkaaDoor
namespace Go.Proofs.YtgblhjmnenmlkaaDoor
open Go.RowKit
theorem len_data' (s : ByteArray) : s.data.toList.length = s.size := rfl
set_option maxHeartbeats 1000000 in
set_option maxRecDepth 100000 in
theorem hex_any (s : ByteArray) (w : World) (hs : s.size ≤ 1000000) :
    Calls Tryd.prog 39 #[.string s] w fun e w' => e = .returned (.string ⟨(hexL s.data.toList).toArray⟩) ∧ Below w.heap.size w w' := by
  obtain ⟨i0, hi, hz0, hz1, hz2⟩ := info_parts infoU8
  go_enter Tryd.func39, Tryd.ntmps39
  go_wp2_with (at_make; refine wpList_make_blk w rfl (.tmp 7) (.tmp 7) 23 rfl 5 i0 _ rfl Tryd.underlying23 hi hz0 hz1 _ _ _ _ (2 * s.size) rfl rfl ?c1 ?c2 ?c3 ?c4 ?_)
  case c1 => omega
  case c2 => omega
  case c3 => rw [hz2]; omega
  case c4 => unfold maxLen; omega
  intro w1 hb1 hbel1 hlt1
  go_wp2
  go_loopw [11] (fun i wr => ∃ k : Nat, k ≤ s.size ∧ i = .int .i64 k ∧ Below w.heap.size w wr ∧ Blk wr w.heap.size 5 (mixF (fun _ => U8 0) (fun j => U8 (hexAt s.data.toList j)) (2 * s.size) (2 * k))) (fun i _ => s.size - (intOf i).toNat)
  case atStart => exact ⟨0, Nat.zero_le _, rfl, hbel1, blk_cast hb1 (by apply Array.ext_getElem?; intro j; by_cases hj : j < 2 * s.size <;> simp [mixF, hj] <;> rfl)⟩
  case round =>
    obtain ⟨k, hk, rfl, hbel, hb⟩ := hrel
    by_cases hlt : k < s.size
    · have hu := s[k].toNat_lt
      obtain ⟨u0, hc0⟩ : ∃ u, wr.cell? ⟨w.heap.size, 2 * k, none⟩ = some u := by
        rw [hb.cell, get_mixF _ _ _ _ _ (by omega)]; exact ⟨_, rfl⟩
      obtain ⟨u1, hc1⟩ : ∃ u, wr.cell? ⟨w.heap.size, 2 * k + 1, none⟩ = some u := by
        rw [hb.cell, get_mixF _ _ _ _ _ (by omega)]; exact ⟨_, rfl⟩
      have hf0 := hb.frozen (2 * k)
      have hf1 := hb.frozen (2 * k + 1)
      have hg0 : ∀ h : s[k].toNat / 16 < (ByteArray.mk #[48, 49, 50, 51, 52, 53, 54, 55, 56, 57, 97, 98, 99, 100, 101, 102]).size, Value.int .u8 ((((ByteArray.mk #[48, 49, 50, 51, 52, 53, 54, 55, 56, 57, 97, 98, 99, 100, 101, 102])[s[k].toNat / 16]'h).toNat : Nat) : Int) = U8 (hexAt s.data.toList (2 * k)) := by
        intro h
        rw [hex_idx, ofNat_div16]
        unfold hexAt
        rw [if_pos (by omega), show 2 * k / 2 = k by omega, List.getD_eq_getElem?_getD, List.getElem?_eq_getElem (by rw [len_data']; exact hlt)]
        rfl
      have hg1 : ∀ h : s[k].toNat % 16 < (ByteArray.mk #[48, 49, 50, 51, 52, 53, 54, 55, 56, 57, 97, 98, 99, 100, 101, 102]).size, Value.int .u8 ((((ByteArray.mk #[48, 49, 50, 51, 52, 53, 54, 55, 56, 57, 97, 98, 99, 100, 101, 102])[s[k].toNat % 16]'h).toNat : Nat) : Int) = U8 (hexAt s.data.toList (2 * k + 1)) := by
        intro h
        rw [hex_idx, ofNat_mod16]
        unfold hexAt
        rw [if_neg (by omega), show (2 * k + 1) / 2 = k by omega, List.getD_eq_getElem?_getD, List.getElem?_eq_getElem (by rw [len_data']; exact hlt)]
        rfl
      have HG0 := hid hg0
      have HG1 := hid hg1
      clear hg0 hg1
      go_wp2
      go_roundw
      case rel =>
        refine ⟨k + 1, by omega, by go_num, (hbel.setCell (Nat.le_refl _) _).setCell (Nat.le_refl _) _, blk_cast ((hb.set_ (2 * k) _).set_ (2 * k + 1) _) ?_⟩
        rw [HG0.out, HG1.out, show 2 * (k + 1) = 2 * k + 1 + 1 by omega, ← set_mixF, ← set_mixF]
      case measure => simp [intOf]; omega
    · have hb2 : Blk wr w.heap.size 5 ((hexL s.data.toList).map U8).toArray := by
        rw [show k = s.size by omega, hexL_cells _ _ (by rw [len_data'])] at hb; exact hb
      have hby : Bytes wr w.heap.size 0 (hexL s.data.toList) := bytes_map hb2
      have hL := length_hexL s.data.toList
      rw [len_data'] at hL
      have HL := hid hL
      clear hL hb hb2
      go_wp2_with (refine wpList_string_of wr rfl 23 9 5 (.tmp 34) rfl Tryd.underlying23 Tryd.underlying5 Tryd.underlying9 w.heap.size 0 _ _ (hexL s.data.toList) rfl HL.out hby ?_)
      go_ret
      exact ⟨rfl, hbel⟩
/-- string(b) under a guard that says yes. -/
theorem wpList_string_of_g {P : Program} (w : World) {ops : Array Oper} {rest : List Oper} {o : Oper} {a : Act} {Q : Exit → Act → World → Prop} (hw : Region.wanted o (yielded ops a.tmps) = true) (s d e : TypeId) (x : Operand)
    (ho : o.op = .convert s d x) (hs : P.underlying s = some (.slice e)) (he : P.underlying e = some (.int .u8)) (hd : P.underlying d = some .string)
    (b off n c : Nat) (bs : List UInt8) (hx : a.eval x = .slice (some ⟨b, off, none⟩) n c) (hn : bs.length = n) (hb : Bytes w b off bs)
    (h : wpList P ops Q rest (a.put o.dst (.string ⟨bs.toArray⟩)) w) : wpList P ops Q (o :: rest) a w := by
  subst hn
  refine wpList_step fun K hK => ?_
  rw [if_pos hw]
  have hr := run_convert_bytes_back (P := P) w s d e _ c bs hs he hd (cells_of_bytes hb)
  unfold Oper.wp execOp
  simp only [ho, hx, Sem.run_bind, Sem.run_pure, Result.andThen_ok, hr]
  exact hK _ _ h

set_option maxHeartbeats 400000 in
theorem cut_any (s : ByteArray) (n : Int) (w : World) (_hs : s.size ≤ maxLen) (h0 : 0 ≤ n) (hn : n ≤ 1000) :
    Calls Tryd.prog 12 #[.string s, .int .i64 n] w fun e w' => ∃ t : ByteArray, e = .returned (.string t) ∧ t.size ≤ n ∧ t.data.toList = s.data.toList.take n.toNat ∧ w = w' := by
  unfold maxLen at _hs
  obtain ⟨m, rfl⟩ := Int.eq_ofNat_of_zero_le h0
  by_cases hlt : m < s.size
  · go_enter Tryd.func12, Tryd.ntmps12
    go_wp2
    go_ret
    exact ⟨_, rfl, by simp; omega, by simp [ByteArray.data_extract], rfl⟩
  · go_enter Tryd.func12, Tryd.ntmps12
    go_wp2
    go_ret
    exact ⟨s, rfl, by omega, by rw [List.take_of_length_le]; rw [Int.toNat_natCast]; show s.size ≤ m; omega, rfl⟩

theorem one_new (w : World) (t : TypeId) (X : Array Value) : ∃ w3 : World, w3 = w.alloc (.cells X t) ∧ Below w.heap.size w w3 ∧ Blk w3 w.heap.size t X ∧ w3.heap.size = w.heap.size + 1 :=
  ⟨_, rfl, (Below.refl _ _).alloc (Nat.le_refl _) _, Blk.new w t X, by simp⟩
end Go.Proofs.YtgblhjmnenmlkaaDoor
namespace Go.Proofs.YtgblhjmnenmlkaaDoor
open Go.RowKit
/-- The table of the quarter rounds, as a known block. -/
def qsTab : List Int := (List.range 32).map fun i => (qAt (i / 4) (i % 4) : Int)
def HQ (e : Nat) : List (Nat × Option ABlk) := [(21, some ⟨.aggI qsTab, e, false⟩)]
theorem qsTab_get (i j : Nat) (hi : i < 8) (hj : j < 4) : (AV.aggI qsTab).list[4 * i + j]? = some (.i64 (qAt i j : Int)) := by
  have h : 4 * i + j < 32 := by omega
  simp only [AV.list, AV.parts, Option.getD_some, qsTab, List.map_map, List.getElem?_map, List.getElem?_range h, Option.map_some, Function.comp]
  rw [show (4 * i + j) / 4 = i by omega, show (4 * i + j) % 4 = j by omega]
theorem qat_of {E : Emb} {S : Nat → Prop} {e : Nat} {w : World} (hg : ∀ g, g < 400 → ∃ s, E g = some (g, s)) (hR : RH E S (hget (HQ e)) w) : QAt w := fun i j hi hj => by
  obtain ⟨y, h1, h2⟩ := tab_cell hR hg (g := 21) (by decide) (k := ⟨.aggI qsTab, e, false⟩) rfl (qsTab_get i j hi hj)
  rw [h1, h2.i64_inv]
theorem u32_rel (E : Emb) (c : UInt32) : Rel E (.u32 c) (U32 c) := .u32 c
theorem cxor_ev (e : Nat) (key nonce s : List UInt8) (ctr : UInt32) (hk : key.length = 32) (hn : nonce.length = 12) (hs : s.length ≤ 1000000) : Meets Tryd.prog 62 [.aggB key, .u32 ctr, .aggB nonce, .str s] (HQ e) (.str (cXor key ctr nonce s)) [] :=
  meets_of_walk fun E S vals w hg hl hr hR => by
    obtain ⟨a, b, c, d, rfl, ha, hb, hc, hd⟩ := args4 hl hr
    rw [relB_inv ha, hb.u32_inv, relB_inv hc, hd.str_inv]
    exact (cxor_any key nonce ctr ⟨s.toArray⟩ w hk hn (by simpa [ByteArray.size] using hs) (qat_of hg hR)).mono fun ed w' ⟨h1, h2⟩ => ⟨_, h1, .str _, h2⟩
theorem cblock_ev (e : Nat) (key nonce : List UInt8) (ctr : UInt32) (hk : key.length = 32) (hn : nonce.length = 12) : Meets Tryd.prog 88 [.aggB key, .u32 ctr, .aggB nonce] (HQ e) (.aggB (cBlock key ctr nonce)) [] :=
  meets_of_walk fun E S vals w hg hl hr hR => by
    obtain ⟨a, b, c, rfl, ha, hb, hc⟩ := args3 hl hr
    rw [relB_inv ha, hb.u32_inv, relB_inv hc]
    exact (cblock_any key nonce ctr w hk hn (qat_of hg hR)).mono fun ed w' ⟨h1, h2⟩ => ⟨_, h1, rel_bytes _ _, h2⟩
theorem refCxor_ev (K N S : List UInt8) (C : UInt32) (q : UInt64) (hq : q.toNat = C.toNat) (hK : K.length = 32) (hN : N.length = 12) (hS : S.length ≤ 1000000) : Meets Tryd.prog 64 [.str K, .u64 q, .str N, .str S] [] (.str (cXor K C N S)) [] :=
  meets_of_walk fun E _ vals w hg hl hr hR => by
    obtain ⟨a, b, c, d, rfl, ha, hb, hc, hd⟩ := args4 hl hr
    rw [ha.str_inv, hb.u64_inv, hc.str_inv, hd.str_inv, hq]
    exact (refCxor_any ⟨K.toArray⟩ ⟨N.toArray⟩ ⟨S.toArray⟩ C w (by simpa [ByteArray.size] using hK) (by simpa [ByteArray.size] using hN) (by simpa [ByteArray.size] using hS)).mono fun ed w' ⟨h1, h2⟩ => ⟨_, h1, .str _, h2⟩
theorem hex_ev (s : List UInt8) (hs : s.length ≤ 1000000) : Meets Tryd.prog 39 [.str s] [] (.str (hexL s)) [] :=
  meets_of_walk fun E _ vals w hg hl hr hR => by
    obtain ⟨a, rfl, ha⟩ := args1 hl hr
    rw [ha.str_inv]
    exact (hex_any ⟨s.toArray⟩ w (by simpa [ByteArray.size] using hs)).mono fun ed w' ⟨h1, h2⟩ => ⟨_, h1, .str _, h2⟩
end Go.Proofs.YtgblhjmnenmlkaaDoor
