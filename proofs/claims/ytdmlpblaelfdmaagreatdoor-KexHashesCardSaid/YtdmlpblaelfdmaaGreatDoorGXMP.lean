/-
  Texts of this claim.
-/
import Derived.Laws.CopyRow
import Derived.Deep.Draws
import Derived.Deep.WholeRow
import Derived.Test.YtdmlpblaelfdmaaGreatDoorGAP
namespace Go.Proofs.YtdmlpblaelfdmaaGreatDoor
open Go.RowKit

/-- Block g is just the cells cs of element type t, none frozen. -/
def Blk (w : World) (g : Nat) (t : TypeId) (cs : Array Value) : Prop := w.heap[g]? = some (.cells cs t (0, 0))
section
variable {w w' : World} {g : Nat} {t : TypeId} {cs : Array Value}
theorem Blk.lt (h : Blk w g t cs) : g < w.heap.size := by
  rcases Nat.lt_or_ge g w.heap.size with hlt | hge
  · exact hlt
  · unfold Blk at h; rw [Array.getElem?_eq_none hge] at h; cases h
theorem Blk.cell (h : Blk w g t cs) (i : Nat) : w.cell? ⟨g, i, none⟩ = cs[i]? := cell_of_row w g i cs t (0, 0) h
theorem Blk.frozen (h : Blk w g t cs) (i : Nat) : w.frozen? ⟨g, i, none⟩ = false := by
  unfold Blk at h
  simp [World.frozen?, h]
theorem Blk.new (w : World) (t : TypeId) (cs : Array Value) : Blk (w.alloc (.cells cs t)) w.heap.size t cs := heap_alloc_new w _
theorem Blk.drew (h : Blk w g t cs) : Blk w.drew g t cs := h
theorem Blk.alloc (h : Blk w g t cs) (o : Obj) : Blk (w.alloc o) g t cs := (Below.heap_alloc w o g h.lt).trans h
theorem Blk.below {B : Nat} (h : Blk w g t cs) (hb : Below B w w') (hg : g < B) : Blk w' g t cs := (hb.block g hg).trans h
theorem Blk.grown {row : Option Nat} (h : Blk w g t cs) (hb : w.grownBy w' row) (hg : some g ≠ row) : Blk w' g t cs := (hb.block g h.lt hg).trans h
theorem Blk.row (h : Blk w g t cs) (cs' : Array Value) : Blk (w.setRow g cs') g t cs' := setRow_heap w g cs cs' t (0, 0) h
end
/-- The bytes bs lie at block b from o on. -/
def Bytes (w : World) (b o : Nat) (bs : List UInt8) : Prop := ∀ j (h : j < bs.length), w.cell? ⟨b, o + j, none⟩ = some (U8 bs[j])
theorem Bytes.of_cells {w w' : World} {b o : Nat} {bs : List UInt8} (h : Bytes w b o bs) (hc : ∀ j, w'.cell? ⟨b, j, none⟩ = w.cell? ⟨b, j, none⟩) : Bytes w' b o bs :=
  fun j hj => (hc _).trans (h j hj)
theorem Bytes.below {w w' : World} {b o B : Nat} {bs : List UInt8} (h : Bytes w b o bs) (hb : Below B w w') (hB : b < B) : Bytes w' b o bs :=
  h.of_cells fun _ => hb.cell hB
theorem Bytes.sub {w : World} {b o : Nat} {bs : List UInt8} (h : Bytes w b o bs) (k n : Nat) : Bytes w b (o + k) ((bs.drop k).take n) := fun j hj => by
  have h1 : k + j < bs.length := by simp at hj; omega
  rw [Nat.add_assoc, h (k + j) h1]
  simp
theorem hid {p : Prop} (h : p) : Hid p := h
section
variable {P : Program}
end
theorem below_grown {B g : Nat} {a w w' : World} (h : Below B a w) (hg : w.grownBy w' (some g)) (hB : B ≤ w.heap.size) (hr : B ≤ g) : Below B a w' :=
  h.grown hg hB (fun k hk => by injection hk with hk; omega)
end Go.Proofs.YtdmlpblaelfdmaaGreatDoor
