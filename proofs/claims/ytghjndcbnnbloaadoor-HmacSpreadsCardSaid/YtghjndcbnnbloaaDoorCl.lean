/-
  The closures that take a block into the hash, walked.
-/
import Derived.Test.YtghjndcbnnbloaaDoorCp
namespace Go.Proofs.YtghjndcbnnbloaaDoor
open Go.RowKit
theorem grown_of_below {w w' : World} (h : Below w.heap.size w w') (r : Option Nat) : w.grownBy w' r := ⟨h.os, h.tape, h.output, h.size, fun k hk _ => h.block k hk⟩
def KAt32 (w : World) : Prop := ∀ j, j < 64 → w.cell? ⟨0, j, none⟩ = some (U32 (K256.getD j 0))
def KAt64 (w : World) : Prop := ∀ j, j < 80 → w.cell? ⟨1, j, none⟩ = some (U64 (K512.getD j 0))

theorem size_cells32 (s : St32) : s.cells.size = 8 := rfl
theorem KAt32.lt {w : World} (h : KAt32 w) : 0 < w.heap.size := block_lt_of_cell (h 0 (by omega))
theorem KAt32.grown {w w' : World} {g : Nat} (h : KAt32 w) (hg : w.grownBy w' (some g)) (hne : g ≠ 0) : KAt32 w' := fun j hj =>
  (World.cell?_of_block (w := w) (a := ⟨0, j, none⟩) (hg.block _ h.lt (fun e => hne (by injection e with e; exact e.symm)))).trans (h j hj)
theorem KAt32.below {w w' : World} (h : KAt32 w) {B : Nat} (hb : Below B w w') (hB : 0 < B) : KAt32 w' := fun j hj => (hb.cell (p := ⟨0, j, none⟩) hB).trans (h j hj)

set_option maxHeartbeats 1000000 in
set_option maxRecDepth 100000 in
theorem absorb32_any (g b o c : Nat) (bs : List UInt8) (s : St32) (w : World) (hg : Blk w g 41 s.cells) (hb : Bytes w b o bs) (hl : bs.length = 64) (hcap : 64 ≤ c) (hK : KAt32 w) :
    Calls Tryd.prog 25 #[.slice (some ⟨b, o, none⟩) 64 c, .pointer (some ⟨g, 0, none⟩)] w fun e w' => e = .returned (.tuple #[]) ∧ w.grownBy w' (some g) ∧ Blk w' g 41 (comp32 s bs).cells := by
  have hblk : b < w.heap.size := block_lt_of_cell (hb 0 (by omega))
  go_enter Tryd.func25, Tryd.ntmps25
  go_wp2_with (refine wpList_load_blk rfl 41 (.tmp 1) rfl g rfl 41 _ _ hg Tryd.underlying41 rfl (size_st32 _) ?_)
  refine (compress32_any b o c bs s w hb hl hcap hblk hK).mono ?_
  rintro e w1 ⟨rfl, hb1⟩
  have hg1 := hg.below hb1 hg.lt
  go_wp2_with (refine wpList_store_blk rfl 41 (.tmp 1) (.tmp 5) rfl g _ rfl rfl 41 _ hg1 (size_st32 _) (by rw [size_cells32, size_cells32]) (oneCell_st32 _) ?_; intro w2 hg2 hgr)
  go_end0
  exact ⟨rfl, grown_trans (grown_of_below hb1 _) hgr, hg2⟩

theorem size_cells64 (s : St64) : s.cells.size = 8 := rfl
theorem KAt64.lt {w : World} (h : KAt64 w) : 1 < w.heap.size := block_lt_of_cell (h 0 (by omega))
theorem KAt64.grown {w w' : World} {g : Nat} (h : KAt64 w) (hg : w.grownBy w' (some g)) (hne : g ≠ 1) : KAt64 w' := fun j hj =>
  (World.cell?_of_block (w := w) (a := ⟨1, j, none⟩) (hg.block _ h.lt (fun e => hne (by injection e with e; exact e.symm)))).trans (h j hj)
theorem KAt64.below {w w' : World} (h : KAt64 w) {B : Nat} (hb : Below B w w') (hB : 1 < B) : KAt64 w' := fun j hj => (hb.cell (p := ⟨1, j, none⟩) hB).trans (h j hj)

set_option maxHeartbeats 1000000 in
set_option maxRecDepth 100000 in
theorem absorb64_any (g b o c : Nat) (bs : List UInt8) (s : St64) (w : World) (hg : Blk w g 47 s.cells) (hb : Bytes w b o bs) (hl : bs.length = 128) (hcap : 128 ≤ c) (hK : KAt64 w) :
    Calls Tryd.prog 28 #[.slice (some ⟨b, o, none⟩) 128 c, .pointer (some ⟨g, 0, none⟩)] w fun e w' => e = .returned (.tuple #[]) ∧ w.grownBy w' (some g) ∧ Blk w' g 47 (comp64 s bs).cells := by
  have hblk : b < w.heap.size := block_lt_of_cell (hb 0 (by omega))
  go_enter Tryd.func28, Tryd.ntmps28
  go_wp2_with (refine wpList_load_blk rfl 47 (.tmp 1) rfl g rfl 47 _ _ hg Tryd.underlying47 rfl (size_st64 _) ?_)
  refine (compress64_any b o c bs s w hb hl hcap hblk hK).mono ?_
  rintro e w1 ⟨rfl, hb1⟩
  have hg1 := hg.below hb1 hg.lt
  go_wp2_with (refine wpList_store_blk rfl 47 (.tmp 1) (.tmp 5) rfl g _ rfl rfl 47 _ hg1 (size_st64 _) (by rw [size_cells64, size_cells64]) (oneCell_st64 _) ?_; intro w2 hg2 hgr)
  go_end0
  exact ⟨rfl, grown_trans (grown_of_below hb1 _) hgr, hg2⟩

end Go.Proofs.YtghjndcbnnbloaaDoor
