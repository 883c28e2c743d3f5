/-
  Bytes in memory: a string's bytes in a new block, one byte stored, indices and single bits. Nothing of the program is named here.
-/
import Derived.Test.YtaenhghihhhikaaDoorCv
import Derived.Laws.Slices
namespace Go.Proofs.YtaenhghihhhikaaDoor
open Go.RowKit
theorem alloc_cell (w : World) (cs : Array Value) (t : TypeId) (fz : Nat × Nat) (j : Nat) : (w.alloc (.cells cs t fz)).cell? ⟨w.heap.size, j, none⟩ = cs[j]? :=
  cell_of_row _ _ j cs t fz (heap_alloc_new w _)
theorem alloc_frozen (w : World) (cs : Array Value) (t : TypeId) (a b : Nat) (j : Nat) (h : j < a) : (w.alloc (.cells cs t (a, b))).frozen? ⟨w.heap.size, j, none⟩ = false := by
  have e := heap_alloc_new w (.cells cs t (a, b))
  have q : (w.alloc (.cells cs t (a, b))).heap[(⟨w.heap.size, j, none⟩ : Addr).block]? = some (.cells cs t (a, b)) := e
  unfold World.frozen?
  rw [q]
  simp; omega
theorem bytes_alloc {P : Program} (w : World) (src dst e : TypeId) (s : ByteArray) (hs : P.underlying src = some .string) (hd : P.underlying dst = some (.slice e)) (he : P.underlying e = some (.int .u8)) :
    ∃ (cap : Nat) (W : World), (convert src dst (.string s)).run P w = .ok (.slice (some ⟨w.heap.size, 0, none⟩) s.size cap) W ∧ Bytes W w.heap.size 0 s.data.toList ∧
      (∀ j, j < s.size → W.frozen? ⟨w.heap.size, j, none⟩ = false) ∧ Below w.heap.size w W ∧ w.heap.size < W.heap.size ∧ s.size ≤ cap := by
  have hlen : ∀ cap, (bytesRow s cap).size = s.size + (cap - s.size) := fun cap => by simp [bytesRow]
  refine ⟨_, _, run_bytes_of_string w src dst e s hs hd he, ?_, ?_, ?_, ?_, grownCap_ge _ _ _ _⟩
  · intro j hj
    have hj' : j < s.size := hj
    rw [Nat.zero_add]
    have h := alloc_cell w.drew (bytesRow s (grownCap w s.size 0 e)) e ((bytesRow s (grownCap w s.size 0 e)).size, (bytesRow s (grownCap w s.size 0 e)).size + 1) j
    refine h.trans ?_
    have hjd : j < s.data.size := hj'
    simp only [bytesRow, Array.getElem?_append, Array.size_map]
    rw [if_pos hjd]
    rw [Array.getElem?_map, Array.getElem?_eq_getElem hjd]
    rfl
  · intro j hj
    exact alloc_frozen w.drew _ e _ _ j (by rw [hlen]; omega)
  · exact ((Below.refl _ _).drew).alloc (by simp) _
  · simp
theorem and7 (x : Int) : ∃ e : Nat, e < 8 ∧ bits .and .i64 x 7 = (e : Int) := by
  refine ⟨((BitVec.ofInt 64 x) &&& (BitVec.ofInt 64 7)).toNat, ?_, ?_⟩
  · rw [BitVec.toNat_and]
    exact Nat.lt_succ_of_le (Nat.and_le_right)
  · show IntKind.i64.wrap ↑((BitVec.ofInt 64 x) &&& (BitVec.ofInt 64 7)).toNat = _
    have h : ((BitVec.ofInt 64 x) &&& (BitVec.ofInt 64 7)).toNat ≤ 7 := by
      rw [BitVec.toNat_and]; exact Nat.and_le_right
    generalize ((BitVec.ofInt 64 x) &&& (BitVec.ofInt 64 7)).toNat = k at h
    simp [IntKind.wrap, IntKind.bits, IntKind.signed]
    omega
theorem idx_any (x : Int) (n : Nat) (hn : 0 < n) : ∃ (r : Int) (i : Nat), x.tmod n = r ∧ -(n : Int) < r ∧ r < n ∧ (r + n).tmod n = (i : Int) ∧ i < n := by
  have h1 : x.tmod n < n := Int.tmod_lt_of_pos _ (by omega)
  have h2 : -(n : Int) < x.tmod n := Int.lt_tmod_of_pos _ (by omega)
  have h3 : (x.tmod n + n).tmod n = (x.tmod n + n) % n := Int.tmod_eq_emod_of_nonneg (by omega)
  have h4 : 0 ≤ (x.tmod n + n) % (n : Int) := Int.emod_nonneg _ (by omega)
  have h5 : (x.tmod n + n) % (n : Int) < n := Int.emod_lt_of_pos _ (by omega)
  exact ⟨_, ((x.tmod n + n) % (n : Int)).toNat, rfl, h2, h1, by rw [h3]; omega, by omega⟩
theorem shl1 (e : Nat) (h : e < 8) : ∃ m : UInt8, (2 : Int) ^ e % 256 = n8 m ∧ m ≠ 0 := by
  refine ⟨1 <<< UInt8.ofNat e, ?_, ?_⟩
  · have h2 := shl_n8 1 e h
    rwa [show n8 1 = 1 from rfl, Int.one_mul] at h2
  · revert e; decide
theorem xor_ne (x m : UInt8) (h : m ≠ 0) : x ^^^ m ≠ x := by
  intro e
  apply h
  have : x ^^^ (x ^^^ m) = x ^^^ x := by rw [e]
  rwa [← UInt8.xor_assoc, UInt8.xor_self, UInt8.zero_xor] at this
theorem bytes_set {w : World} {g : Nat} {l : List UInt8} (h : Bytes w g 0 l) (i : Nat) (hi : i < l.length) (v : UInt8) : Bytes (w.setCell ⟨g, i, none⟩ (U8 v)) g 0 (l.set i v) := by
  intro j hj
  have hj' : j < l.length := by simpa using hj
  have hc := h j hj'
  have hci := h i hi
  rw [Nat.zero_add] at hc hci ⊢
  by_cases e : i = j
  · subst e
    rw [World.cell?_setCell_same _ _ _ hci]
    simp
  · rw [World.cell?_setCell_other _ _ _ _ (fun h => e (by injection h)), hc]
    simp [e]
theorem set_ne (l : List UInt8) (i : Nat) (h : i < l.length) (v : UInt8) (hv : v ≠ l[i]) : l.set i v ≠ l := by
  intro e
  apply hv
  have : (l.set i v)[i]'(by simpa using h) = l[i] := by simp only [e]
  simpa using this

/-- The bytes L lie at the head of block g and may be written. -/
def RBytes (w : World) (g : Nat) (L : List UInt8) : Prop := Bytes w g 0 L ∧ (∀ j, j < L.length → w.frozen? ⟨g, j, none⟩ = false) ∧ g < w.heap.size
theorem RBytes.below {w w' : World} {g : Nat} {L : List UInt8} (h : RBytes w g L) {B : Nat} (hb : Below B w w') (hg : g < B) (hB : B ≤ w.heap.size) : RBytes w' g L :=
  ⟨h.1.below hb hg, fun j hj => (hb.frozen (p := ⟨g, j, none⟩) hg).trans (h.2.1 j hj), Nat.lt_of_lt_of_le (Nat.lt_of_lt_of_le hg hB) hb.size⟩
theorem RBytes.drew {w : World} {g : Nat} {L : List UInt8} (h : RBytes w g L) : RBytes w.drew g L := h
theorem RBytes.grown {w w' : World} {g : Nat} {r : Option Nat} {L : List UInt8} (h : RBytes w g L) (hg : w.grownBy w' r) (hr : some g ≠ r) : RBytes w' g L := by
  have hb := hg.block g h.2.2 hr
  refine ⟨fun j hj => (World.cell?_of_block (a := ⟨g, 0 + j, none⟩) hb).trans (h.1 j hj), fun j hj => ?_, Nat.lt_of_lt_of_le h.2.2 hg.size⟩
  have := h.2.1 j hj
  unfold World.frozen? at this ⊢
  rw [show w'.heap[(⟨g, j, none⟩ : Addr).block]? = w.heap[(⟨g, j, none⟩ : Addr).block]? from hb]
  exact this
theorem RBytes.alloc {w : World} {g : Nat} {L : List UInt8} (h : RBytes w g L) (o : Obj) : RBytes (w.alloc o) g L := h.grown (r := none) (World.grownBy_alloc w o none) (by simp)
theorem RBytes.set_ {w : World} {g : Nat} {L : List UInt8} (h : RBytes w g L) (i : Nat) (hi : i < L.length) (v : UInt8) : RBytes (w.setCell ⟨g, i, none⟩ (U8 v)) g (L.set i v) :=
  ⟨bytes_set h.1 i hi v, fun j hj => by rw [World.frozen?_setCell]; exact h.2.1 j (by simpa using hj), by simpa [World.setCell] using h.2.2⟩
theorem RBytes.cell {w : World} {g : Nat} {L : List UInt8} (h : RBytes w g L) (i : Nat) (hi : i < L.length) : w.cell? ⟨g, i, none⟩ = some (U8 (L.getD i 0)) := by
  have := h.1 i hi
  rw [Nat.zero_add] at this
  rw [this, List.getD_eq_getElem?_getD, List.getElem?_eq_getElem hi]; rfl
/-- x[l:h] of a slice whose elements are of one cell each. -/
theorem slice_sl {P : Program} (t e : Nat) (hu : P.underlying t = some (.slice e)) (hs : (P.info? e).map (·.size) = some 1) (b o n c : Nat) (kl kh : IntKind) (L H : Int) (l h : Nat) (hL : L = l) (hH : H = h) (h1 : l ≤ h) (h2 : h ≤ c) (h3 : l < c) (w : World) :
    (Instr.slice t (.slice (some ⟨b, o, none⟩) n c) (some (.int kl L)) (some (.int kh H)) none).run P w = .ok (.slice (some ⟨b, o + l, none⟩) (h - l) (c - l)) w := by
  subst hL hH
  have he : P.elem t = e := by simp [Program.elem, hu]
  have hs' : (sizeOf e).run P w = .ok 1 w := by
    cases hq : P.info? e with
    | none => simp [hq] at hs
    | some i => simp [hq] at hs; simp [sizeOf, typeInfo, hq, hs]
  have hadd : ∀ j, (⟨b, o, none⟩ : Addr).add j = ⟨b, o + j, none⟩ := fun j => by unfold Addr.add; split <;> simp_all
  rw [run_slice_lh w t _ n c (by rw [he]; exact hu) kl kh l h (by omega) (by omega) (by omega), he, hs']
  simp only [Result.andThen_ok, sliced, Int.toNat_natCast, Nat.mul_one]
  rw [if_neg (by omega)]
  simp [hadd]
end Go.Proofs.YtaenhghihhhikaaDoor
