/-
  Texts of this claim.
-/
import Derived.Laws.IdiomStrings
import Derived.Laws.Slices
import Derived.Laws.OwnMore
import Derived.OwnWalk
import Derived.Deep.RegionLaw
import Derived.BigRegion
import Derived.Deep.RegionHeld3
import Derived.Deep.RegionWith
import Derived.StillTailTactics
import Derived.Lib.AppendZeros
import Derived.Deep.QuietTactic
import Derived.BigQuiet
import Derived.Laws.BytesArg
import Derived.Test.YtidjfinookikcaaDoorGQM
import Derived.Test.YtidjfinookikcaaDoorGQX
import Derived.Test.YtidjfinookikcaaDoorGQZ
namespace Go.Proofs.YtidjfinookikcaaDoor
open Go.RowKit

section
variable {P : Program}
theorem wpList_convert_run (w : World) {ops : Array Oper} {rest : List Oper} {o : Oper} {a : Act} {Q : Exit → Act → World → Prop} (hgd : o.guard = none) (s d : TypeId) (x : Operand)
    (ho : o.op = .convert s d x) (vx : Value) (hx : a.eval x = vx)
    (v' : Value) (w' : World) (hr : (convert s d vx).run P w = .ok v' w') (h : wpList P ops Q rest (a.put o.dst v') w') : wpList P ops Q (o :: rest) a w := by
  refine wpList_plain hgd fun K hK => ?_
  unfold Oper.wp execOp
  simp only [ho, hx, Sem.run_bind, Sem.run_pure, Result.andThen_ok, hr]
  exact hK _ _ h
theorem cells_of_bytes {w : World} {b o : Nat} {bs : List UInt8} (h : Bytes w b o bs) : ∀ j (hj : j < bs.length), w.cell? ((⟨b, o, none⟩ : Addr).add j) = some (.int .u8 (bs[j].toNat : Int)) := by
  intro j hj
  have e : (⟨b, o, none⟩ : Addr).add j = ⟨b, o + j, none⟩ := by unfold Addr.add; split <;> simp_all
  rw [e]; exact h j hj
/-- string(b), b's cells being bs. -/
theorem wpList_string_of (w : World) {ops : Array Oper} {rest : List Oper} {o : Oper} {a : Act} {Q : Exit → Act → World → Prop} (hgd : o.guard = none) (s d e : TypeId) (x : Operand)
    (ho : o.op = .convert s d x) (hs : P.underlying s = some (.slice e)) (he : P.underlying e = some (.int .u8)) (hd : P.underlying d = some .string)
    (b off n c : Nat) (bs : List UInt8) (hx : a.eval x = .slice (some ⟨b, off, none⟩) n c) (hn : bs.length = n) (hb : Bytes w b off bs)
    (h : wpList P ops Q rest (a.put o.dst (.string ⟨bs.toArray⟩)) w) : wpList P ops Q (o :: rest) a w := by
  subst hn
  exact wpList_convert_run w hgd s d x ho _ hx _ _ (run_convert_bytes_back w s d e _ c bs hs he hd (cells_of_bytes hb)) h
theorem blk_of_own {w : World} {base e g n : Nat} {xs : List Value} (h : w.ownsRow base e 1 (.slice (some ⟨g, 0, none⟩) n n) n xs) : Blk w g e xs.toArray := by
  obtain ⟨hl, h | ⟨g', cap, cur, hv, _, hh, _, _, hsz, htk⟩⟩ := h
  · cases h.1
  · injection hv with h1 h2 h3
    injection h1 with h1
    injection h1 with h1
    subst h1; subst h3
    unfold Blk
    rw [hh, ← htk, List.take_of_length_le (by simp; omega)]
theorem madeCells_one (v : Value) (n : Nat) : (madeCells #[v] n).toList = List.replicate n v := by
  apply List.ext_getElem?
  intro i
  simp only [madeCells, Array.toList_map, Array.toList_range, List.getElem?_map, List.getElem?_replicate]
  by_cases h : i < n <;> simp [h, Nat.mod_one]
/-- make([]T, n), T of one cell. -/
theorem wpList_make_blk (w : World) {ops : Array Oper} {rest : List Oper} {o : Oper} {a : Act} {Q : Exit → Act → World → Prop}
    (hg : o.guard = none) (l c : Operand) (t : TypeId) (hop : o.op = Op.makeSlice t l c)
    (e : TypeId) (i : TypeInfo) (z : Value) (hz : z.cells = #[z]) (h1 : P.underlying t = some (.slice e)) (h2 : P.info? e = some i) (h3 : i.zero = some z) (h4 : i.size = 1)
    (kl kc : IntKind) (L C : Int) (n : Nat) (hl : a.eval l = .int kl L) (hc : a.eval c = .int kc C) (hL : L = (n : Int)) (hC : C = (n : Int)) (b2 : i.bytes * n ≤ 281474976710656) (b3 : n ≤ maxLen)
    (hK : ∀ w', Blk w' w.heap.size e (Array.replicate n z) → Below w.heap.size w w' → w.heap.size < w'.heap.size → wpList P ops Q rest (a.put o.dst (.slice (some ⟨w.heap.size, 0, none⟩) n n)) w') :
    wpList P ops Q (o :: rest) a w :=
  wpList_make_full w hg l c t hop w.heap.size e i z 1 h1 h2 h3 h4 kl kc L C n hl hc hL hC b2 b3 (Nat.le_refl _) fun w' hown hgr => by
    have hb := blk_of_own hown
    rw [hz, Nat.mul_one, madeCells_one] at hb
    have hb' : Blk w' w.heap.size e (Array.replicate n z) := blk_cast hb (by simp)
    exact hK w' hb' ((Below.refl _ _).grown hgr (Nat.le_refl _) (fun k hk => by cases hk)) hb'.lt
end
theorem bytes_of_blk {w : World} {g t : Nat} {bs : List UInt8} {cs : Array Value} (h : Blk w g t cs) (o n : Nat) (hc : ∀ j, j < n → cs[o + j]? = some (U8 (bs.getD j 0))) (hn : bs.length = n) : Bytes w g o bs := by
  intro j hj
  rw [h.cell, hc j (by omega)]
  simp [List.getD_eq_getElem?_getD, hj]
end Go.Proofs.YtidjfinookikcaaDoor
namespace Go.Proofs.YtidjfinookikcaaDoor
/-- The hexadecimal digit of a number below 16. -/
def hexDigit (d : UInt8) : UInt8 := if d < 10 then 48 + d else 87 + d
def hexL (l : List UInt8) : List UInt8 := l.flatMap fun b => [hexDigit (b / 16), hexDigit (b % 16)]
def hexAt (l : List UInt8) (j : Nat) : UInt8 := if j % 2 = 0 then hexDigit (l.getD (j / 2) 0 / 16) else hexDigit (l.getD (j / 2) 0 % 16)
theorem length_hexL (l : List UInt8) : (hexL l).length = 2 * l.length := by
  induction l with
  | nil => rfl
  | cons a l ih => simp only [hexL, List.flatMap_cons, List.length_append, List.length_cons, List.length_nil] at ih ⊢; omega
theorem hexL_get (l : List UInt8) : ∀ j, j < 2 * l.length → (hexL l)[j]? = some (hexAt l j) := by
  induction l with
  | nil => intro j h; simp at h
  | cons a l ih =>
    intro j h
    match j, h with
    | 0, _ => rfl
    | 1, _ => rfl
    | j + 2, h =>
      have := ih j (by simp at h; omega)
      show (hexL l)[j]? = _
      rw [this]
      unfold hexAt
      rw [show (j + 2) % 2 = j % 2 by omega, show (j + 2) / 2 = j / 2 + 1 by omega]
      rfl
theorem hexL_succ (l : List UInt8) (k : Nat) (h : k < l.length) : hexL (l.take (k + 1)) = hexL (l.take k) ++ [hexDigit (l[k] / 16), hexDigit (l[k] % 16)] := by
  unfold hexL; rw [List.take_succ_eq_append_getElem h, List.flatMap_append]; rfl
theorem hexL_cells (l : List UInt8) (n : Nat) (h : n = 2 * l.length) : mixF (fun _ => U8 0) (fun j => U8 (hexAt l j)) n n = ((hexL l).map U8).toArray := by
  subst h
  apply Array.ext_getElem?
  intro j
  by_cases hj : j < 2 * l.length
  · rw [get_mixF _ _ _ _ _ hj, if_pos hj]; simp [hexL_get l j hj]
  · rw [Array.getElem?_eq_none (by rw [size_mixF]; omega), Array.getElem?_eq_none (by simp [length_hexL]; omega)]
theorem hex_idx (d : Nat) (h : d < (ByteArray.mk #[48, 49, 50, 51, 52, 53, 54, 55, 56, 57, 97, 98, 99, 100, 101, 102]).size) : (ByteArray.mk #[48, 49, 50, 51, 52, 53, 54, 55, 56, 57, 97, 98, 99, 100, 101, 102])[d] = hexDigit (UInt8.ofNat d) := by
  have e : ∀ d : Fin 16, (ByteArray.mk #[48, 49, 50, 51, 52, 53, 54, 55, 56, 57, 97, 98, 99, 100, 101, 102])[d.val]'d.isLt = hexDigit (UInt8.ofNat d.val) := by decide
  exact e ⟨d, h⟩
theorem ofNat_div16 (b : UInt8) : UInt8.ofNat (b.toNat / 16) = b / 16 := by
  apply UInt8.toNat_inj.1; rw [UInt8.toNat_div]; simp [UInt8.toNat_ofNat']; have := b.toNat_lt; omega
theorem ofNat_mod16 (b : UInt8) : UInt8.ofNat (b.toNat % 16) = b % 16 := by
  apply UInt8.toNat_inj.1; rw [UInt8.toNat_mod]; simp [UInt8.toNat_ofNat']; have := b.toNat_lt; omega
def abc256 : List UInt8 := [98, 97, 55, 56, 49, 54, 98, 102, 56, 102, 48, 49, 99, 102, 101, 97, 52, 49, 52, 49, 52, 48, 100, 101, 53, 100, 97, 101, 50, 50, 50, 51, 98, 48, 48, 51, 54, 49, 97, 51, 57, 54, 49, 55, 55, 97, 57, 99, 98, 52, 49, 48, 102, 102, 54, 49, 102, 50, 48, 48, 49, 53, 97, 100]
def abc512 : List UInt8 := [100, 100, 97, 102, 51, 53, 97, 49, 57, 51, 54, 49, 55, 97, 98, 97, 99, 99, 52, 49, 55, 51, 52, 57, 97, 101, 50, 48, 52, 49, 51, 49, 49, 50, 101, 54, 102, 97, 52, 101, 56, 57, 97, 57, 55, 101, 97, 50, 48, 97, 57, 101, 101, 101, 101, 54, 52, 98, 53, 53, 100, 51, 57, 97, 50, 49, 57, 50, 57, 57, 50, 97, 50, 55, 52, 102, 99, 49, 97, 56, 51, 54, 98, 97, 51, 99, 50, 51, 97, 51, 102, 101, 101, 98, 98, 100, 52, 53, 52, 100, 52, 52, 50, 51, 54, 52, 51, 99, 101, 56, 48, 101, 50, 97, 57, 97, 99, 57, 52, 102, 97, 53, 52, 99, 97, 52, 57, 102]
end Go.Proofs.YtidjfinookikcaaDoor
namespace Go.Proofs.YtidjfinookikcaaDoor
open Go.RowKit
theorem alloc_cell (w : World) (cs : Array Value) (t : TypeId) (fz : Nat × Nat) (j : Nat) : (w.alloc (.cells cs t fz)).cell? ⟨w.heap.size, j, none⟩ = cs[j]? :=
  cell_of_row _ _ j cs t fz (heap_alloc_new w _)
theorem alloc_frozen (w : World) (cs : Array Value) (t : TypeId) (a b : Nat) (j : Nat) (h : j < a) : (w.alloc (.cells cs t (a, b))).frozen? ⟨w.heap.size, j, none⟩ = false := by
  have e := heap_alloc_new w (.cells cs t (a, b))
  have q : (w.alloc (.cells cs t (a, b))).heap[(⟨w.heap.size, j, none⟩ : Addr).block]? = some (.cells cs t (a, b)) := e
  unfold World.frozen?
  rw [q]
  simp; omega
theorem bytes_alloc {P : Program} (w : World) (src dst e : TypeId) (s : ByteArray) (hs : P.underlying src = some .string) (hd : P.underlying dst = some (.slice e)) (he : P.underlying e = some (.int .u8)) :
    ∃ (cap : Nat) (W : World), (convert src dst (.string s)).run P w = .ok (.slice (some ⟨w.heap.size, 0, none⟩) s.size cap) W ∧ Bytes W w.heap.size 0 s.data.toList ∧
      (∀ j, j < s.size → W.frozen? ⟨w.heap.size, j, none⟩ = false) ∧ Below w.heap.size w W ∧ w.heap.size < W.heap.size ∧ s.size ≤ cap := by
  have hlen : ∀ cap, (bytesRow s cap).size = s.size + (cap - s.size) := fun cap => by simp [bytesRow]
  refine ⟨_, _, run_bytes_of_string w src dst e s hs hd he, ?_, ?_, ?_, ?_, grownCap_ge _ _ _ _⟩
  · intro j hj
    have hj' : j < s.size := hj
    rw [Nat.zero_add]
    have h := alloc_cell w.drew (bytesRow s (grownCap w s.size 0 e)) e ((bytesRow s (grownCap w s.size 0 e)).size, (bytesRow s (grownCap w s.size 0 e)).size + 1) j
    refine h.trans ?_
    have hjd : j < s.data.size := hj'
    simp only [bytesRow, Array.getElem?_append, Array.size_map]
    rw [if_pos hjd]
    rw [Array.getElem?_map, Array.getElem?_eq_getElem hjd]
    rfl
  · intro j hj
    exact alloc_frozen w.drew _ e _ _ j (by rw [hlen]; omega)
  · exact ((Below.refl _ _).drew).alloc (by simp) _
  · simp
theorem and7 (x : Int) : ∃ e : Nat, e < 8 ∧ bits .and .i64 x 7 = (e : Int) := by
  refine ⟨((BitVec.ofInt 64 x) &&& (BitVec.ofInt 64 7)).toNat, ?_, ?_⟩
  · rw [BitVec.toNat_and]
    exact Nat.lt_succ_of_le (Nat.and_le_right)
  · show IntKind.i64.wrap ↑((BitVec.ofInt 64 x) &&& (BitVec.ofInt 64 7)).toNat = _
    have h : ((BitVec.ofInt 64 x) &&& (BitVec.ofInt 64 7)).toNat ≤ 7 := by
      rw [BitVec.toNat_and]; exact Nat.and_le_right
    generalize ((BitVec.ofInt 64 x) &&& (BitVec.ofInt 64 7)).toNat = k at h
    simp [IntKind.wrap, IntKind.bits, IntKind.signed]
    omega
theorem idx_any (x : Int) (n : Nat) (hn : 0 < n) : ∃ (r : Int) (i : Nat), x.tmod n = r ∧ -(n : Int) < r ∧ r < n ∧ (r + n).tmod n = (i : Int) ∧ i < n := by
  have h1 : x.tmod n < n := Int.tmod_lt_of_pos _ (by omega)
  have h2 : -(n : Int) < x.tmod n := Int.lt_tmod_of_pos _ (by omega)
  have h3 : (x.tmod n + n).tmod n = (x.tmod n + n) % n := Int.tmod_eq_emod_of_nonneg (by omega)
  have h4 : 0 ≤ (x.tmod n + n) % (n : Int) := Int.emod_nonneg _ (by omega)
  have h5 : (x.tmod n + n) % (n : Int) < n := Int.emod_lt_of_pos _ (by omega)
  exact ⟨_, ((x.tmod n + n) % (n : Int)).toNat, rfl, h2, h1, by rw [h3]; omega, by omega⟩
theorem shl1 (e : Nat) (h : e < 8) : ∃ m : UInt8, (2 : Int) ^ e % 256 = n8 m ∧ m ≠ 0 := by
  refine ⟨1 <<< UInt8.ofNat e, ?_, ?_⟩
  · have h2 := shl_n8 1 e h
    rwa [show n8 1 = 1 from rfl, Int.one_mul] at h2
  · revert e; decide
theorem xor_ne (x m : UInt8) (h : m ≠ 0) : x ^^^ m ≠ x := by
  intro e
  apply h
  have : x ^^^ (x ^^^ m) = x ^^^ x := by rw [e]
  rwa [← UInt8.xor_assoc, UInt8.xor_self, UInt8.zero_xor] at this
theorem bytes_set {w : World} {g : Nat} {l : List UInt8} (h : Bytes w g 0 l) (i : Nat) (hi : i < l.length) (v : UInt8) : Bytes (w.setCell ⟨g, i, none⟩ (U8 v)) g 0 (l.set i v) := by
  intro j hj
  have hj' : j < l.length := by simpa using hj
  have hc := h j hj'
  have hci := h i hi
  rw [Nat.zero_add] at hc hci ⊢
  by_cases e : i = j
  · subst e
    rw [World.cell?_setCell_same _ _ _ hci]
    simp
  · rw [World.cell?_setCell_other _ _ _ _ (fun h => e (by injection h)), hc]
    simp [e]
theorem set_ne (l : List UInt8) (i : Nat) (h : i < l.length) (v : UInt8) (hv : v ≠ l[i]) : l.set i v ≠ l := by
  intro e
  apply hv
  have : (l.set i v)[i]'(by simpa using h) = l[i] := by simp only [e]
  simpa using this

/-- The bytes L lie at the head of block g and may be written. -/
def RBytes (w : World) (g : Nat) (L : List UInt8) : Prop := Bytes w g 0 L ∧ (∀ j, j < L.length → w.frozen? ⟨g, j, none⟩ = false) ∧ g < w.heap.size
theorem RBytes.below {w w' : World} {g : Nat} {L : List UInt8} (h : RBytes w g L) {B : Nat} (hb : Below B w w') (hg : g < B) (hB : B ≤ w.heap.size) : RBytes w' g L :=
  ⟨h.1.below hb hg, fun j hj => (hb.frozen (p := ⟨g, j, none⟩) hg).trans (h.2.1 j hj), Nat.lt_of_lt_of_le (Nat.lt_of_lt_of_le hg hB) hb.size⟩
theorem RBytes.drew {w : World} {g : Nat} {L : List UInt8} (h : RBytes w g L) : RBytes w.drew g L := h
theorem RBytes.grown {w w' : World} {g : Nat} {r : Option Nat} {L : List UInt8} (h : RBytes w g L) (hg : w.grownBy w' r) (hr : some g ≠ r) : RBytes w' g L := by
  have hb := hg.block g h.2.2 hr
  refine ⟨fun j hj => (World.cell?_of_block (a := ⟨g, 0 + j, none⟩) hb).trans (h.1 j hj), fun j hj => ?_, Nat.lt_of_lt_of_le h.2.2 hg.size⟩
  have := h.2.1 j hj
  unfold World.frozen? at this ⊢
  rw [show w'.heap[(⟨g, j, none⟩ : Addr).block]? = w.heap[(⟨g, j, none⟩ : Addr).block]? from hb]
  exact this
theorem RBytes.alloc {w : World} {g : Nat} {L : List UInt8} (h : RBytes w g L) (o : Obj) : RBytes (w.alloc o) g L := h.grown (r := none) (World.grownBy_alloc w o none) (by simp)
theorem RBytes.set_ {w : World} {g : Nat} {L : List UInt8} (h : RBytes w g L) (i : Nat) (hi : i < L.length) (v : UInt8) : RBytes (w.setCell ⟨g, i, none⟩ (U8 v)) g (L.set i v) :=
  ⟨bytes_set h.1 i hi v, fun j hj => by rw [World.frozen?_setCell]; exact h.2.1 j (by simpa using hj), by simpa [World.setCell] using h.2.2⟩
theorem RBytes.cell {w : World} {g : Nat} {L : List UInt8} (h : RBytes w g L) (i : Nat) (hi : i < L.length) : w.cell? ⟨g, i, none⟩ = some (U8 (L.getD i 0)) := by
  have := h.1 i hi
  rw [Nat.zero_add] at this
  rw [this, List.getD_eq_getElem?_getD, List.getElem?_eq_getElem hi]; rfl
/-- x[l:h] of a slice whose elements are of one cell each. -/
theorem slice_sl {P : Program} (t e : Nat) (hu : P.underlying t = some (.slice e)) (hs : (P.info? e).map (·.size) = some 1) (b o n c : Nat) (kl kh : IntKind) (L H : Int) (l h : Nat) (hL : L = l) (hH : H = h) (h1 : l ≤ h) (h2 : h ≤ c) (h3 : l < c) (w : World) :
    (Instr.slice t (.slice (some ⟨b, o, none⟩) n c) (some (.int kl L)) (some (.int kh H)) none).run P w = .ok (.slice (some ⟨b, o + l, none⟩) (h - l) (c - l)) w := by
  subst hL hH
  have he : P.elem t = e := by simp [Program.elem, hu]
  have hs' : (sizeOf e).run P w = .ok 1 w := by
    cases hq : P.info? e with
    | none => simp [hq] at hs
    | some i => simp [hq] at hs; simp [sizeOf, typeInfo, hq, hs]
  have hadd : ∀ j, (⟨b, o, none⟩ : Addr).add j = ⟨b, o + j, none⟩ := fun j => by unfold Addr.add; split <;> simp_all
  rw [run_slice_lh w t _ n c (by rw [he]; exact hu) kl kh l h (by omega) (by omega) (by omega), he, hs']
  simp only [Result.andThen_ok, sliced, Int.toNat_natCast, Nat.mul_one]
  rw [if_neg (by omega)]
  simp [hadd]
end Go.Proofs.YtidjfinookikcaaDoor
namespace Go.Proofs.YtidjfinookikcaaDoor
open Go.RowKit
section
variable {P : Program}
theorem own_shape {w : World} {base e n : Nat} {v : Value} {xs : List Value} (h : w.ownsRow base e 1 v n xs) (hn : 0 < n) : ∃ g cap, v = .slice (some ⟨g, 0, none⟩) n cap ∧ base ≤ g := by
  obtain ⟨_, ⟨_, h0⟩ | ⟨g, cap, cur, hv, hb, _⟩⟩ := h
  · omega
  · exact ⟨g, cap, hv, hb⟩
theorem own_base {w : World} {base e g n cap : Nat} {xs : List Value} (h : w.ownsRow base e 1 (.slice (some ⟨g, 0, none⟩) n cap) n xs) : base ≤ g := by
  obtain ⟨_, ⟨h0, _⟩ | ⟨g', cap', cur, hv, hb, _⟩⟩ := h
  · cases h0
  · injection hv with h1; injection h1 with h1; injection h1 with h1; subst h1; exact hb
/-- append of the elements that lie at b. -/
theorem step_append {ops : Array Oper} {rest : List Oper} {o : Oper} {a : Act} {w : World} {Q : Exit → Act → World → Prop} (hgd : o.guard = none) (s x : Operand) (t : TypeId)
    (ho : o.op = .call { callee := .builtin .append, args := #[s, x], argTypes := #[t, t] })
    (base : Nat) (e : TypeId) (i : TypeInfo) (z : Value) (bytes : Nat) (ht : P.underlying t = some (.slice e)) (hi : P.info? e = some i) (hz : i.zero = some z)
    (hsize : i.size = 1) (hby : i.bytes = bytes) (hzs : z.cells.size = 1) (hb16 : bytes ≤ 16)
    (v : Value) (n : Nat) (xs : List Value) (hs : a.eval s = v) (hown : w.ownsRow base e 1 v n xs)
    (b off m c : Nat) (news : List Value) (hx : a.eval x = .slice (some ⟨b, off, none⟩) m c) (hl : news.length = m) (hnews : ∀ j u, news[j]? = some u → w.cell? ⟨b, off + j, none⟩ = some u) (h1 : ∀ u ∈ news, u.oneCell' = true)
    (hm : 0 < n + m) (hnm : n + m ≤ 1000000000000) (hbase : base ≤ w.heap.size)
    (h : ∀ g cap w', w'.ownsRow base e 1 (.slice (some ⟨g, 0, none⟩) (n + m) cap) (n + m) (xs ++ news) → w.grownBy w' v.ownBlock → Below base w w' → wpList P ops Q rest (a.put o.dst (.slice (some ⟨g, 0, none⟩) (n + m) cap)) w') : wpList P ops Q (o :: rest) a w := by
  refine wpList_append_own w hgd s x t ho base e i z 1 bytes ht hi hz hsize hby hzs (by decide) v n xs hs hown ⟨b, off, none⟩ m c news hx (by simpa using hl) (fun j u hu => ?_) h1 (by unfold maxLen; omega) ?_ hbase ?_
  · have e : (⟨b, off, none⟩ : Addr).add j = ⟨b, off + j, none⟩ := by unfold Addr.add; split <;> simp_all
    rw [e]; exact hnews j u hu
  · have := Nat.mul_le_mul hnm hb16; omega
  · intro v' w' hown' hg _
    obtain ⟨g, cap, rfl, _⟩ := own_shape hown' (by omega)
    refine h g cap w' hown' hg ((Below.refl _ _).grown hg hbase (fun k hk => ?_))
    exact (hown.lt k hk).1
/-- The same as one step of a region that draws its order. -/
theorem step_append_if {ops : Array Oper} {o : Oper} {a : Act} {w : World} {K : Act → World → Prop} {Q : Exit → Act → World → Prop} {E : Prop} (hgd : o.guard = none) (s x : Operand) (t : TypeId)
    (ho : o.op = .call { callee := .builtin .append, args := #[s, x], argTypes := #[t, t] })
    (base : Nat) (e : TypeId) (i : TypeInfo) (z : Value) (bytes : Nat) (ht : P.underlying t = some (.slice e)) (hi : P.info? e = some i) (hz : i.zero = some z)
    (hsize : i.size = 1) (hby : i.bytes = bytes) (hzs : z.cells.size = 1) (hb16 : bytes ≤ 16)
    (v : Value) (n : Nat) (xs : List Value) (hs : a.eval s = v) (hown : w.ownsRow base e 1 v n xs)
    (b off m c : Nat) (news : List Value) (hx : a.eval x = .slice (some ⟨b, off, none⟩) m c) (hl : news.length = m) (hnews : ∀ j u, news[j]? = some u → w.cell? ⟨b, off + j, none⟩ = some u) (h1 : ∀ u ∈ news, u.oneCell' = true)
    (hm : 0 < n + m) (hnm : n + m ≤ 1000000000000) (hbase : base ≤ w.heap.size)
    (h : ∀ g cap w', w'.ownsRow base e 1 (.slice (some ⟨g, 0, none⟩) (n + m) cap) (n + m) (xs ++ news) → w.grownBy w' v.ownBlock → Below base w w' → K (a.put o.dst (.slice (some ⟨g, 0, none⟩) (n + m) cap)) w') : if Region.wanted o (yielded ops a.tmps) = true then Oper.wp P o a w K Q else E := by
  have hw : Region.wanted o (yielded ops a.tmps) = true := by simp [Region.wanted, hgd]
  rw [if_pos hw]
  refine wp_append_own w s x t ho base e i z 1 bytes ht hi hz hsize hby hzs (by decide) v n xs hs hown ⟨b, off, none⟩ m c news hx (by simpa using hl) (fun j u hu => ?_) h1 (by unfold maxLen; omega) ?_ hbase ?_
  · have e : (⟨b, off, none⟩ : Addr).add j = ⟨b, off + j, none⟩ := by unfold Addr.add; split <;> simp_all
    rw [e]; exact hnews j u hu
  · have := Nat.mul_le_mul hnm hb16; omega
  · intro v' w' hown' hg _
    obtain ⟨g, cap, rfl, _⟩ := own_shape hown' (by omega)
    refine h g cap w' hown' hg ((Below.refl _ _).grown hg hbase (fun k hk => ?_))
    exact (hown.lt k hk).1
end
theorem own_cell {w : World} {base e g n cap : Nat} {xs : List Value} (h : w.ownsRow base e 1 (.slice (some ⟨g, 0, none⟩) n cap) n xs) (j : Nat) (hj : j < n) : w.cell? ⟨g, j, none⟩ = xs[j]? := h.cellAt j (by omega)
theorem own_lit (w : World) (e : TypeId) (z : Array Value) (n : Nat) (hz : z.size = n) (hn : n ≤ maxLen) (base : Nat) (hb : base ≤ w.heap.size) : (w.alloc (.cells z e)).ownsRow base e 1 (.slice (some ⟨w.heap.size, 0, none⟩) n n) n z.toList :=
  ⟨by simp [hz], .inr ⟨w.heap.size, n, z, rfl, hb, heap_alloc_new w _, Nat.le_refl _, hn, by omega, by rw [List.take_of_length_le]; simp [hz]⟩⟩
theorem own_below {w w' : World} {base e g n cap B : Nat} {xs : List Value} (h : w.ownsRow base e 1 (.slice (some ⟨g, 0, none⟩) n cap) n xs) (hb : Below B w w') (hg : g < B) : w'.ownsRow base e 1 (.slice (some ⟨g, 0, none⟩) n cap) n xs := by
  obtain ⟨h0, ⟨h1, _⟩ | ⟨g', cap', cur, hv, hb', hh, r⟩⟩ := h
  · cases h1
  · have hgg : g = g' := by injection hv with h1; injection h1 with h1; injection h1 with h1
    subst hgg
    exact ⟨h0, .inr ⟨g, cap', cur, hv, hb', (hb.block g hg).trans hh, r⟩⟩
theorem own_kept {w w' : World} {base e g n cap g0 : Nat} {xs : List Value} (h : w.ownsRow base e 1 (.slice (some ⟨g, 0, none⟩) n cap) n xs) (hg : w.grownBy w' (some g0)) (hne : g ≠ g0) : w'.ownsRow base e 1 (.slice (some ⟨g, 0, none⟩) n cap) n xs :=
  h.kept hg (Or.inr (by simp [Value.ownBlock, hne]))
theorem new_one (w : World) (t : TypeId) (x : Value) : ∀ j u, ([x] : List Value)[j]? = some u → (w.alloc (.cells #[x] t)).cell? ⟨w.heap.size, 0 + j, none⟩ = some u := by
  intro j u hu
  match j, hu with
  | 0, hu => rw [(Blk.new w t #[x]).cell]; simpa using hu
  | j + 1, hu => simp at hu
theorem own_lt {w : World} {base e g n cap : Nat} {xs : List Value} (h : w.ownsRow base e 1 (.slice (some ⟨g, 0, none⟩) n cap) n xs) : g < w.heap.size := (h.lt g rfl).2
theorem own_drewN {w : World} {base e n : Nat} {v : Value} {xs : List Value} (h : w.ownsRow base e 1 v n xs) (m : Nat) : (w.drewN m).ownsRow base e 1 v n xs := h
end Go.Proofs.YtidjfinookikcaaDoor
namespace Go.Proofs.YtidjfinookikcaaDoor
open Go.RowKit
attribute [local go_sem] xor_n8 add_n32 add_n32' wrap_n32

/-- The bytes of s, the first m of them with the key stream. -/
def cPart (key : List UInt8) (ctr : UInt32) (nonce s : List UInt8) (m : Nat) : List UInt8 := s.mapIdx fun i b => if i < m then b ^^^ (cBlock key (ctr + UInt32.ofNat (i / 64)) nonce).getD (i % 64) 0 else b
theorem length_cPart (key : List UInt8) (ctr : UInt32) (nonce s : List UInt8) (m : Nat) : (cPart key ctr nonce s m).length = s.length := by simp [cPart]
theorem cPart_zero (key : List UInt8) (ctr : UInt32) (nonce s : List UInt8) : cPart key ctr nonce s 0 = s := by
  apply List.ext_getElem?; intro i; simp [cPart]
theorem cPart_all (key : List UInt8) (ctr : UInt32) (nonce s : List UInt8) (m : Nat) (h : s.length ≤ m) : cPart key ctr nonce s m = cXor key ctr nonce s := by
  apply List.ext_getElem?
  intro i
  by_cases hi : i < s.length
  · rw [get_cXor _ _ _ _ i hi]; simp [cPart, hi, show i < m by omega]
  · rw [List.getElem?_eq_none (by rw [length_cPart]; omega), List.getElem?_eq_none (by rw [length_cXor]; omega)]
theorem cPart_getD (key : List UInt8) (ctr : UInt32) (nonce s : List UInt8) (m : Nat) (h : m < s.length) : (cPart key ctr nonce s m).getD m 0 = s.getD m 0 := by
  simp [cPart, List.getD_eq_getElem?_getD, h]
theorem cPart_succ (key : List UInt8) (ctr : UInt32) (nonce s : List UInt8) (m : Nat) (h : m < s.length) :
    (cPart key ctr nonce s m).set m (s.getD m 0 ^^^ (cBlock key (ctr + UInt32.ofNat (m / 64)) nonce).getD (m % 64) 0) = cPart key ctr nonce s (m + 1) := by
  apply List.ext_getElem?
  intro i
  rw [List.getElem?_set, length_cPart]
  by_cases hi : i < s.length
  · by_cases e : m = i
    · subst e
      simp [cPart, h, List.getD_eq_getElem?_getD]
    · rw [if_neg e]
      simp only [cPart, List.getElem?_mapIdx, List.getElem?_eq_getElem hi, Option.map_some]
      by_cases h2 : i < m
      · rw [if_pos h2, if_pos (by omega)]
      · rw [if_neg h2, if_neg (by omega)]
  · rw [if_neg (by omega)]
    rw [List.getElem?_eq_none (by rw [length_cPart]; omega), List.getElem?_eq_none (by rw [length_cPart]; omega)]

def XRel (w : World) (g : Nat) (key nonce s : List UInt8) (ctr : UInt32) (m : Nat) (wr : World) : Prop :=
  Below w.heap.size w wr ∧ QAt wr ∧ Blk wr w.heap.size 25 (key.map U8).toArray ∧ Blk wr (w.heap.size + 1) 61 (nonce.map U8).toArray ∧ RBytes wr g (cPart key ctr nonce s m)
def XIn (w : World) (g gB : Nat) (key nonce s : List UInt8) (ctr : UInt32) (B : List UInt8) (m : Nat) (wr : World) : Prop := XRel w g key nonce s ctr m wr ∧ Blk wr gB 91 (B.map U8).toArray
theorem XIn.next {w wr : World} {g gB k j : Nat} {key nonce s : List UInt8} {ctr : UInt32} {B : List UInt8} (h : XIn w g gB key nonce s ctr B (64 * k + j) wr) (hm : 64 * k + j < s.length) (hg : w.heap.size + 2 ≤ g ∧ g < gB) (hB : B = cBlock key (ctr + UInt32.ofNat k) nonce) (hj : j < 64) (hq : 3 < g) :
    XIn w g gB key nonce s ctr B (64 * k + (j + 1)) (wr.setCell ⟨g, 64 * k + j, none⟩ (U8 (s.getD (64 * k + j) 0 ^^^ B.getD j 0))).drew := by
  obtain ⟨⟨h0, hQ, h1, h2, h3⟩, h4⟩ := h
  refine ⟨⟨(h0.setCell (by show _ ≤ g; omega) _).drew, fun i j hi hj => ?_, (h1.far (by show _ ≠ g; omega) _).drew, (h2.far (by show _ ≠ g; omega) _).drew, ?_⟩, (h4.far (by show _ ≠ g; omega) _).drew⟩
  · exact (World.cell?_setCell_other _ _ _ _ (fun e => by injection e with e; have e' : g = 3 := e; omega)).trans (hQ i j hi hj)
  · have := h3.set_ (64 * k + j) (by rw [length_cPart]; exact hm) (s.getD (64 * k + j) 0 ^^^ B.getD j 0)
    rw [hB] at this ⊢
    have e := cPart_succ key ctr nonce s (64 * k + j) hm
    rw [show (64 * k + j) / 64 = k by omega, show (64 * k + j) % 64 = j by omega] at e
    rw [e] at this
    exact this
set_option maxHeartbeats 1000000 in
set_option maxRecDepth 100000 in
theorem cxor_any (key nonce : List UInt8) (ctr : UInt32) (s : ByteArray) (w : World) (hk : key.length = 32) (hn : nonce.length = 12) (hs : s.size ≤ 1000000) (hQ : QAt w) :
    Calls Tryd.prog 27 #[.agg (key.map U8).toArray, U32 ctr, .agg (nonce.map U8).toArray, .string s] w fun e w' => e = .returned (.string ⟨(cXor key ctr nonce s.data.toList).toArray⟩) ∧ Below w.heap.size w w' := by
  obtain ⟨w0, hw0, hbel0, hbK, hbN, hsz⟩ : ∃ w0 : World, w0 = (w.alloc (.cells (key.map U8).toArray 25)).alloc (.cells (nonce.map U8).toArray 61) ∧ Below w.heap.size w w0 ∧ Blk w0 w.heap.size 25 (key.map U8).toArray ∧ Blk w0 (w.heap.size + 1) 61 (nonce.map U8).toArray ∧ w0.heap.size = w.heap.size + 2 :=
    ⟨_, rfl, ((Below.refl _ _).alloc (Nat.le_refl _) _).alloc (by simp) _, (Blk.new w _ _).alloc _, by simpa using Blk.new (w.alloc (.cells (key.map U8).toArray 25)) 61 (nonce.map U8).toArray, by simp⟩
  have hsz1 : w.heap.size + 2 ≤ w0.heap.size := by omega
  clear hsz
  obtain ⟨cap, W, hrun, hby, hfz, hbW, hltW, hcap⟩ := bytes_alloc (P := Tryd.prog) w0 9 31 5 s Tryd.underlying9 Tryd.underlying31 Tryd.underlying5
  have HR := hid (show (convert 9 31 (.string s)).run Tryd.prog ((w.alloc (.cells (key.map U8).toArray 25)).alloc (.cells (nonce.map U8).toArray 61)) = .ok (.slice (some ⟨w0.heap.size, 0, none⟩) s.size cap) W by rw [← hw0]; exact hrun)
  have hR0 : XRel w w0.heap.size key nonce s.data.toList ctr 0 W := by
    have hbel : Below w.heap.size w W := hbel0.trans (hbW.mono (by omega))
    exact ⟨hbel, hQ.below hbel hQ.lt, hbK.below hbW (by omega), hbN.below hbW (by omega), by rw [cPart_zero]; exact ⟨hby, hfz, hltW⟩⟩
  have hkl := hid hk
  have hnl := hid hn
  clear hk hn hw0 hrun hby hfz hbW hbK hbN hbel0
  have hsl : s.data.toList.length = s.size := rfl
  have HSL := hid hsl
  have HQ := hid hQ
  clear hsl hQ
  go_enter Tryd.func27, Tryd.ntmps27
  go_wp2_with (refine wpList_convert_run _ rfl 9 31 (.tmp 14) rfl _ rfl _ _ HR.out ?_)
  clear HR
  go_loopw [1, 10] (fun c i wr => ∃ k : Nat, 64 * k < s.size + 64 ∧ i = .int .i64 (64 * (k : Int)) ∧ c = U32 (ctr + UInt32.ofNat k) ∧ XRel w w0.heap.size key nonce s.data.toList ctr (64 * k) wr) (fun _ i _ => s.size + 64 - (intOf i).toNat)
  case atStart => exact ⟨0, by omega, rfl, by simp, hR0⟩
  case round =>
    clear hR0
    obtain ⟨k, hk, rfl, rfl, hR⟩ := hrel
    by_cases hlt : 64 * k < s.size
    · obtain ⟨n, hn, hn64, hnle, hor⟩ : ∃ n : Nat, (if (s.size : Int) < 64 * (k : Int) + 64 then (s.size : Int) else 64 * (k : Int) + 64) = 64 * (k : Int) + (n : Int) ∧ n ≤ 64 ∧ 64 * k + n ≤ s.size ∧ (n = 64 ∨ 64 * k + n = s.size) := ⟨min 64 (s.size - 64 * k), by split <;> omega, by omega, by omega, by omega⟩
      have hbl : 64 * (k : Int) + (n : Int) ≤ s.size := by omega
      have hsl := slice_sl (P := Tryd.prog) 31 5 Tryd.underlying31 size8 w0.heap.size 0 s.size cap .i64 .i64 (64 * (k : Int)) (64 * (k : Int) + (n : Int)) (64 * k) (64 * k + n) (by omega) (by omega) (by omega) (by omega) (by omega)
      rw [show 64 * k + n - 64 * k = n by omega, Nat.zero_add] at hsl
      have hd : decide (64 * (k : Int) < (s.size : Int)) = true := by simp; omega
      obtain ⟨hbel, hQ, hbK, hbN, hRB⟩ := hR
      go_wp2_with (first
        | (refine wpList_load_blk rfl 25 (.tmp 4) rfl w.heap.size rfl 25 _ _ hbK Tryd.underlying25 rfl (size22 _ hkl.out) ?_)
        | (refine wpList_load_blk rfl 61 (.tmp 6) rfl (w.heap.size + 1) rfl 61 _ _ hbN Tryd.underlying61 rfl (size24 _ hnl.out) ?_))
      refine (cblock_any key nonce (ctr + UInt32.ofNat k) wr hkl.out hnl.out hQ).mono ?_
      rintro e w1 ⟨rfl, hb1⟩
      have hbel1 := hbel.trans (hb1.mono hbel.size)
      have hQ1 := hQ.below hb1 hQ.lt
      have hbK1 := hbK.below hb1 hbK.lt
      have hbN1 := hbN.below hb1 hbN.lt
      have hRB1 := hRB.below hb1 hRB.2.2 (Nat.le_refl _)
      have hgl := hRB1.2.2
      have hkl1 := hbK1.lt
      have hnl1 := hbN1.lt
      have hQ2 : Hid (∀ w2, w1.grownBy w2 (some w1.heap.size) → QAt w2) := hid fun w2 hg i j hi hj => (World.cell?_of_block (w := w1) (a := ⟨3, 4 * i + j, none⟩) (hg.block _ hQ1.lt (fun e => by injection e with e; have := hQ1.lt; have e' : 3 = w1.heap.size := e; omega))).trans (hQ1 i j hi hj)
      clear hb1 hbel hQ hbK hbN hRB
      obtain ⟨B, hB⟩ : ∃ B, B = cBlock key (ctr + UInt32.ofNat k) nonce := ⟨_, rfl⟩
      have hBl : B.length = 64 := by rw [hB, length_cBlock]
      rw [← hB]
      have HB := hid hB
      have HBL := hid hBl
      clear hB hBl
      go_wp2_with (refine wpList_store_blk rfl 91 (.tmp 11) (.tmp 25) rfl w1.heap.size _ rfl rfl 91 _ (Blk.new w1 91 _) (size26 _ HBL.out) (by rw [size_map _ _ _ HBL.out]; rfl) (oneCell_map _ (fun _ => rfl) _) ?_
                   intro w2 hBB hg2
                   have hs2 := hg2.size
                   simp only [World.size_alloc] at hs2
                   have hbel2 := below_grown (hbel1.alloc hbel1.size _) hg2 (by simp; omega) hbel1.size
                   have hbK2 := (hbK1.alloc _).gro hg2 (by omega)
                   have hbN2 := (hbN1.alloc _).gro hg2 (by omega)
                   have hRB2 := (hRB1.alloc _).grown hg2 (fun e => by injection e with e; omega)
                   have hQ3 := hQ2.out w2 (grown_trans (World.grownBy_alloc w1 _ _) hg2)
                   have hblt : w0.heap.size < w1.heap.size := hgl
                   clear hg2)
      clear hsl hn
      have hB0 : XIn w w0.heap.size w1.heap.size key nonce s.data.toList ctr B (64 * k + 0) w2 := ⟨⟨hbel2, hQ3, hbK2, hbN2, hRB2⟩, hBB⟩
      clear hbel2 hQ2 hQ3 hbK2 hbN2 hRB2 hBB hQ1 hgl hkl1 hnl1
      obtain ⟨wo, rfl⟩ : ∃ wo : World, wo = w2 := ⟨_, rfl⟩
      go_loopw [13, 38] (fun _ i wr => ∃ j : Nat, j ≤ n ∧ i = .int .i64 j ∧ XIn w w0.heap.size w1.heap.size key nonce s.data.toList ctr B (64 * k + j) wr) (fun _ i _ => n - (intOf i).toNat)
      case atStart => exact ⟨0, Nat.zero_le _, rfl, hB0⟩
      case round =>
        clear hB0
        obtain ⟨j, hj, rfl, hR⟩ := hrel
        by_cases hlt2 : j < n
        · have hd2 : decide ((j : Int) < (n : Int)) = true := by simp; omega
          have hc1 := hR.1.2.2.2.2.cell (64 * k + j) (by rw [length_cPart, HSL.out]; omega)
          rw [cPart_getD _ _ _ _ _ (by rw [HSL.out]; omega)] at hc1
          have hf1 := hR.1.2.2.2.2.2.1 (64 * k + j) (by rw [length_cPart, HSL.out]; omega)
          have hc2 := (hR.2.cell j).trans (map_get U8 0 B j (by rw [HBL.out]; omega))
          have hnx := hR.next (by rw [HSL.out]; omega) ⟨by omega, hblt⟩ HB.out (by omega) (by have := HQ.out.lt; omega)
          obtain ⟨x, hx⟩ : ∃ x, x = s.data.toList.getD (64 * k + j) 0 := ⟨_, rfl⟩
          obtain ⟨y, hy⟩ : ∃ y, y = B.getD j 0 := ⟨_, rfl⟩
          rw [← hx] at hc1 hnx
          rw [← hy] at hc2 hnx
          have HNX := hid hnx
          have hjz : (0 : Int) ≤ j := by omega
          have hj8 : (j : Int) < 64 := by omega
          have hjn : (j : Int) < n := by omega
          clear hx hy hR hnx
          go_wp2
          go_region
          go_wp2
          go_roundw
          case rel => exact ⟨j + 1, by omega, by go_num, HNX.out⟩
          case measure => simp [intOf]; omega
        · rw [show j = n by omega] at hR
          have hd2 : decide ((j : Int) < (n : Int)) = false := by simp; omega
          have hL : cPart key ctr nonce s.data.toList (64 * k + n) = cPart key ctr nonce s.data.toList (64 * (k + 1)) := by
            rcases hor with h | h
            · rw [h]; rfl
            · rw [cPart_all _ _ _ _ _ (by rw [HSL.out]; omega), cPart_all _ _ _ _ _ (by rw [HSL.out]; omega)]
          have hR2 := hR.1
          unfold XRel at hR2
          rw [hL] at hR2
          have hcn : ctr + UInt32.ofNat k + 1 = ctr + UInt32.ofNat (k + 1) := by rw [UInt32.ofNat_add, UInt32.add_assoc]; rfl
          have HCN := hid hcn
          clear hR hL hcn
          go_wp2
          go_roundw
          case rel => exact ⟨k + 1, by omega, by go_num, by rw [← HCN.out]; rfl, hR2⟩
          case measure => simp [intOf]; omega
    · have hd : decide (64 * (k : Int) < (s.size : Int)) = false := by simp; omega
      obtain ⟨hbel, _, _, _, hRB⟩ := hR
      rw [cPart_all _ _ _ _ _ (by rw [HSL.out]; omega)] at hRB
      have hLn : (cXor key ctr nonce s.data.toList).length = s.size := by rw [length_cXor, HSL.out]
      have HLN := hid hLn
      clear hLn
      go_wp2_with (refine wpList_string_of _ rfl 31 9 5 (.tmp 51) rfl Tryd.underlying31 Tryd.underlying5 Tryd.underlying9 w0.heap.size 0 s.size cap (cXor key ctr nonce s.data.toList) rfl HLN.out hRB.1 ?_)
      go_ret
      exact ⟨rfl, hbel⟩
end Go.Proofs.YtidjfinookikcaaDoor
namespace Go.Proofs.YtidjfinookikcaaDoor
open Go.RowKit

theorem rotl32_bv (x : UInt32) (n : Nat) (h1 : 1 ≤ n) (h : n < 32) : (rotl32 x n).toBitVec = x.toBitVec.rotateLeft n := by
  unfold rotl32
  apply BitVec.eq_of_getLsbD_eq
  intro i hi
  rw [BitVec.getLsbD_rotateLeft]
  simp only [UInt32.toBitVec_or, UInt32.toBitVec_shiftLeft, UInt32.toBitVec_shiftRight, UInt32.toBitVec_ofNat', BitVec.getLsbD_or]
  have e1 : (BitVec.ofNat 32 n % 32).toNat = n := by simp [BitVec.toNat_umod, Nat.mod_eq_of_lt (show n < 4294967296 by omega), Nat.mod_eq_of_lt h]
  have e2 : (BitVec.ofNat 32 (32 - n) % 32).toNat = 32 - n := by simp [BitVec.toNat_umod, Nat.mod_eq_of_lt (show 32 - n < 4294967296 by omega), Nat.mod_eq_of_lt (show 32 - n < 32 by omega)]
  rw [BitVec.shiftLeft_eq', BitVec.ushiftRight_eq', e1, e2, BitVec.getLsbD_shiftLeft, BitVec.getLsbD_ushiftRight, Nat.mod_eq_of_lt h]
  by_cases hlt : i < n
  · simp [hlt, hi]
  · simp [hlt, hi, BitVec.getLsbD_of_ge x.toBitVec (32 - n + i) (by omega)]
theorem rotl32_step (x : UInt32) (n : Nat) (h1 : 1 ≤ n) (h : n + 1 < 32) : rotl32 (rotl32 x n) 1 = rotl32 x (n + 1) := by
  apply UInt32.toBitVec_inj.1
  rw [rotl32_bv _ 1 (by omega) (by omega), rotl32_bv _ n h1 (by omega), rotl32_bv _ (n + 1) (by omega) h]
  apply BitVec.eq_of_getLsbD_eq
  intro i hi
  simp only [BitVec.getLsbD_rotateLeft, Nat.mod_eq_of_lt (show 1 < 32 by omega), Nat.mod_eq_of_lt (show n < 32 by omega), Nat.mod_eq_of_lt h]
  by_cases h0 : i < 1
  · have h3 : ¬ 32 - 1 + i < n := by omega
    have h4 : i < n + 1 := by omega
    have h5 : 32 - 1 + i < 32 := by omega
    simp only [h0, h3, h4, h5, decide_true, decide_false, cond_true, cond_false, Bool.true_and]
    congr 1; omega
  · by_cases h2 : i - 1 < n
    · have h4 : i < n + 1 := by omega
      simp only [h0, h2, h4, hi, decide_true, decide_false, cond_true, cond_false, Bool.true_and]
      congr 1; omega
    · have h4 : ¬ i < n + 1 := by omega
      have h5 : i - 1 < 32 := by omega
      simp only [h0, h2, h4, h5, hi, decide_true, decide_false, cond_false, Bool.true_and]
      congr 1; omega
def rotI (x : UInt32) : Nat → UInt32
  | 0 => x
  | n + 1 => rotl32 (rotI x n) 1
theorem rotI_eq (x : UInt32) (n : Nat) (h1 : 1 ≤ n) (h : n < 32) : rotI x n = rotl32 x n := by
  induction n with
  | zero => omega
  | succ n ih =>
    by_cases h0 : n = 0
    · subst h0; rfl
    · rw [rotI, ih (by omega) (by omega), rotl32_step x n (by omega) h]
theorem rot1_lo (x : UInt32) (h : n32 x * 2 < 4294967296) : n32 x * 2 = n32 (rotl32 x 1) := by
  have e : (rotl32 x 1).toNat = x.toNat <<< 1 % 4294967296 ||| x.toNat >>> 31 := rfl
  unfold n32 at h ⊢
  rw [e, Nat.shiftLeft_eq, Nat.shiftRight_eq_div_pow, show x.toNat / 2 ^ 31 = 0 by omega, Nat.or_zero]
  omega
theorem rot1_hi (x : UInt32) (h : ¬ n32 x * 2 < 4294967296) : n32 x * 2 - 4294967296 + 1 = n32 (rotl32 x 1) := by
  have e : (rotl32 x 1).toNat = x.toNat <<< 1 % 4294967296 ||| x.toNat >>> 31 := rfl
  have hlt := x.toNat_lt
  unfold n32 at h ⊢
  have e2 : x.toNat * 2 ^ 1 % 4294967296 = (x.toNat - 2147483648) <<< 1 := by rw [Nat.shiftLeft_eq]; omega
  rw [e, Nat.shiftLeft_eq, Nat.shiftRight_eq_div_pow, show x.toNat / 2 ^ 31 = 1 by omega, e2, ← Nat.shiftLeft_add_eq_or_of_lt (by omega : 1 < 2 ^ 1), Nat.shiftLeft_eq]
  omega
end Go.Proofs.YtidjfinookikcaaDoor
namespace Go.Proofs.YtidjfinookikcaaDoor
open Go.RowKit

/-- The slice v is the call's own and holds f of the list. -/
def Own {α : Type} (w : World) (base : Nat) (t : TypeId) (f : α → Value) (v : Value) (l : List α) : Prop := w.ownsRow base t 1 v l.length (l.map f)
section
variable {α : Type} {w w' : World} {base : Nat} {t : TypeId} {f : α → Value} {v : Value} {l : List α}
theorem Own.nil (w : World) (base : Nat) (t : TypeId) (f : α → Value) : Own w base t f (.slice none 0 0) [] := World.ownsRow_nil _ _ _ _
theorem Own.mono (h : Own w base t f v l) {b : Nat} (hb : b ≤ base) : Own w b t f v l := by
  refine ⟨h.1, ?_⟩
  rcases h.2 with hn | ⟨g, cap, cur, e, hbg, rest⟩
  · exact .inl hn
  · exact .inr ⟨g, cap, cur, e, Nat.le_trans hb hbg, rest⟩
theorem Own.form (h : Own w base t f v l) : (v = .slice none 0 0 ∧ l = []) ∨ ∃ g cap, v = .slice (some ⟨g, 0, none⟩) l.length cap ∧ base ≤ g ∧ g < w.heap.size ∧ l.length ≤ cap ∧ cap ≤ maxLen := by
  rcases h.2 with ⟨rfl, hn⟩ | ⟨g, cap, cur, rfl, hbg, hh, hc, hm, _⟩
  · exact .inl ⟨rfl, List.eq_nil_of_length_eq_zero hn⟩
  · exact .inr ⟨g, cap, rfl, hbg, (Array.getElem?_eq_some_iff.1 hh).1, hc, hm⟩
/-- A slice value: its address may be nil, where it is empty. -/
theorem Own.slice (h : Own w base t f v l) : ∃ A cap, v = .slice A l.length cap := by
  rcases h.form with ⟨rfl, rfl⟩ | ⟨g, cap, rfl, _⟩
  · exact ⟨_, _, rfl⟩
  · exact ⟨_, _, rfl⟩
theorem Own.cell {g cap : Nat} (h : Own w base t f (.slice (some ⟨g, 0, none⟩) l.length cap) l) (z : α) (j : Nat) (hj : j < l.length) : w.cell? ⟨g, j, none⟩ = some (f (l.getD j z)) := by
  have := h.cells (g := g) rfl j (f (l.getD j z)) (by simp [List.getD_eq_getElem?_getD, List.getElem?_eq_getElem hj])
  rwa [addr_add] at this
theorem Own.frozen {g cap : Nat} (h : Own w base t f (.slice (some ⟨g, 0, none⟩) l.length cap) l) (j : Nat) : w.frozen? ⟨g, j, none⟩ = false := World.ownsRow.frozenAt h j
theorem Own.lt {g n cap : Nat} (h : Own w base t f (.slice (some ⟨g, 0, none⟩) n cap) l) : base ≤ g ∧ g < w.heap.size := World.ownsRow.lt h g rfl
theorem Own.lt_ (h : Own w base t f v l) : ∀ k, v.ownBlock = some k → base ≤ k := fun k hk => (World.ownsRow.lt h k hk).1
theorem Own.below_of (h : Own w base t f v l) (hg : w.grownBy w' v.ownBlock) (hb : base ≤ w.heap.size) : Below base w w' := (Below.refl _ _).grown hg hb h.lt_
theorem Own.drew (h : Own w base t f v l) : Own w.drew base t f v l := h
theorem Own.drewN (h : Own w base t f v l) (n : Nat) : Own (w.drewN n) base t f v l := h
theorem Own.alloc (h : Own w base t f v l) (o : Obj) : Own (w.alloc o) base t f v l := World.ownsRow.alloc h o
theorem Own.below {B : Nat} (h : Own w base t f v l) (hb : Below B w w') (hB : w.heap.size ≤ B) : Own w' base t f v l := by
  refine ⟨h.1, ?_⟩
  rcases h.2 with hn | ⟨g, cap, cur, e, hbg, hh, rest⟩
  · exact .inl hn
  · exact .inr ⟨g, cap, cur, e, hbg, (hb.block g (Nat.lt_of_lt_of_le (Array.getElem?_eq_some_iff.1 hh).1 hB)).trans hh, rest⟩
theorem Own.grown {r : Option Nat} (h : Own w base t f v l) (hg : w.grownBy w' r) (hne : v.ownBlock = none ∨ v.ownBlock ≠ r) : Own w' base t f v l := World.ownsRow.kept h hg hne
theorem Own.cast {l' : List α} (h : Own w base t f v l) (e : l = l') : Own w base t f v l' := e ▸ h
/-- One element is stored. -/
theorem Own.set_ {g n cap : Nat} (h : Own w base t f (.slice (some ⟨g, 0, none⟩) n cap) l) (i : Nat) (x : α) : Own (w.setCell ⟨g, i, none⟩ (f x)) base t f (.slice (some ⟨g, 0, none⟩) n cap) (l.set i x) := by
  have hn : n = l.length := by
    rcases h.form with ⟨e, _⟩ | ⟨_, _, e, _⟩
    · cases e
    · injection e
  subst hn
  have := World.ownsRow.stored h i (f x)
  unfold Own
  rw [List.length_set, List.map_set]
  exact this.1
/-- The first k elements of a row are a row. -/
theorem Own.take {g n cap k : Nat} (h : Own w base t f (.slice (some ⟨g, 0, none⟩) n cap) l) (hk : k ≤ l.length) : Own w base t f (.slice (some ⟨g, 0, none⟩) k cap) (l.take k) := by
  rcases h.2 with ⟨e, _⟩ | ⟨g', cap', cur, e, hbg, hh, hc, hm, hs, ht⟩
  · cases e
  · injection e with e1 e2 e3
    injection e1 with e1
    injection e1 with e1
    subst e1; subst e3; subst e2
    refine ⟨by simp, .inr ⟨g, cap, cur, by rw [List.length_take, Nat.min_eq_left hk], hbg, hh, by rw [List.length_take]; omega, hm, hs, ?_⟩⟩
    rw [List.map_take, ← ht, List.take_take, List.length_take]
    congr 1; omega
end
theorem Own.apart {α β : Type} {w : World} {b b' t t' : Nat} {f : α → Value} {f' : β → Value} {v v' : Value} {l : List α} {l' : List β} (h : Own w b t f v l) (h' : Own w b' t' f' v' l') (hne : t ≠ t') : v.ownBlock = none ∨ v.ownBlock ≠ v'.ownBlock := by
  rcases h.2 with ⟨rfl, _⟩ | ⟨g, cap, cur, rfl, _, hh, _⟩
  · exact .inl rfl
  · refine .inr (fun e => ?_)
    rcases h'.2 with ⟨rfl, _⟩ | ⟨g', cap', cur', rfl, _, hh', _⟩
    · simp [Value.ownBlock] at e
    · simp only [Value.ownBlock, Option.some.injEq] at e
      subst e
      rw [hh] at hh'
      injection hh' with hh'
      injection hh' with _ ht
      exact hne ht
theorem Own.bytes {w : World} {base t g n cap : Nat} {l : List UInt8} (h : Own w base t U8 (.slice (some ⟨g, 0, none⟩) n cap) l) : Bytes w g 0 l := fun j hj => by
  have := h.cells (g := g) rfl j (U8 (l[j])) (by simp [hj])
  rw [addr_add] at this
  rw [Nat.zero_add]
  exact this
/-- A new block of one literal's elements. -/
theorem Own.new {α : Type} (w : World) (base : Nat) (t : TypeId) (f : α → Value) (l : List α) (hb : base ≤ w.heap.size) (hm : l.length ≤ maxLen) : Own (w.alloc (.cells (l.map f).toArray t)) base t f (.slice (some ⟨w.heap.size, 0, none⟩) l.length l.length) l :=
  ⟨by simp, .inr ⟨w.heap.size, l.length, (l.map f).toArray, rfl, hb, heap_alloc_new w _, Nat.le_refl _, hm, by simp, by simp [List.take_of_length_le]⟩⟩
section
variable {P : Program} {α : Type}
/-- append(v, the elements that lie at b). -/
theorem step_append_lit {ops : Array Oper} {o : Oper} {a : Act} {w : World} {K : Act → World → Prop} {Q : Exit → Act → World → Prop} {E : Prop} (hgd : o.guard = none) (s x : Operand) (t : TypeId)
    (ho : o.op = .call { callee := .builtin .append, args := #[s, x], argTypes := #[t, t] })
    (base : Nat) (e : TypeId) (i : TypeInfo) (z : Value) (bytes : Nat) (f : α → Value) (hf : ∀ x, (f x).oneCell' = true) (ht : P.underlying t = some (.slice e)) (hi : P.info? e = some i) (hz : i.zero = some z)
    (hsize : i.size = 1) (hby : i.bytes = bytes) (hzs : z.cells.size = 1) (hb16 : bytes ≤ 16)
    (v : Value) (l m : List α) (n : Nat) (hn : m.length = n) (hs : a.eval s = v) (hown : Own w base e f v l)
    (b off c : Nat) (hx : a.eval x = .slice (some ⟨b, off, none⟩) n c) (hnews : ∀ j u, (m.map f)[j]? = some u → w.cell? ⟨b, off + j, none⟩ = some u)
    (hnm : l.length + n ≤ 1000000000000) (hbase : base ≤ w.heap.size)
    (h : ∀ v' w', Own w' base e f v' (l ++ m) → w.grownBy w' v.ownBlock → Below base w w' → K (a.put o.dst v') w') : if Region.wanted o (yielded ops a.tmps) = true then Oper.wp P o a w K Q else E := by
  subst hn
  have hw : Region.wanted o (yielded ops a.tmps) = true := by simp [Region.wanted, hgd]
  rw [if_pos hw]
  refine wp_append_own w s x t ho base e i z 1 bytes ht hi hz hsize hby hzs (by decide) v l.length (l.map f) hs hown ⟨b, off, none⟩ m.length c (m.map f) hx (by simp) (fun j u hu => ?_) (by intro x hx; simp at hx; obtain ⟨y, _, rfl⟩ := hx; exact hf y) (by unfold maxLen; omega) ?_ hbase ?_
  · have e : (⟨b, off, none⟩ : Addr).add j = ⟨b, off + j, none⟩ := by unfold Addr.add; split <;> simp_all
    rw [e]; exact hnews j u hu
  · have := Nat.mul_le_mul hnm hb16; omega
  · intro v' w' hown' hg _
    refine h v' w' (by unfold Own; rw [List.length_append, List.map_append]; exact hown') hg ((Below.refl _ _).grown hg hbase (fun k hk => ?_))
    exact (hown.lt_ k hk)
theorem wpList_append_lit {ops : Array Oper} {rest : List Oper} {o : Oper} {a : Act} {w : World} {Q : Exit → Act → World → Prop} (hgd : o.guard = none) (s x : Operand) (t : TypeId)
    (ho : o.op = .call { callee := .builtin .append, args := #[s, x], argTypes := #[t, t] })
    (base : Nat) (e : TypeId) (i : TypeInfo) (z : Value) (bytes : Nat) (f : α → Value) (hf : ∀ x, (f x).oneCell' = true) (ht : P.underlying t = some (.slice e)) (hi : P.info? e = some i) (hz : i.zero = some z)
    (hsize : i.size = 1) (hby : i.bytes = bytes) (hzs : z.cells.size = 1) (hb16 : bytes ≤ 16)
    (v : Value) (l m : List α) (n : Nat) (hn : m.length = n) (hs : a.eval s = v) (hown : Own w base e f v l)
    (b off c : Nat) (hx : a.eval x = .slice (some ⟨b, off, none⟩) n c) (hnews : ∀ j u, (m.map f)[j]? = some u → w.cell? ⟨b, off + j, none⟩ = some u)
    (hnm : l.length + n ≤ 1000000000000) (hbase : base ≤ w.heap.size)
    (h : ∀ v' w', Own w' base e f v' (l ++ m) → w.grownBy w' v.ownBlock → Below base w w' → wpList P ops Q rest (a.put o.dst v') w') : wpList P ops Q (o :: rest) a w :=
  wpList_plain hgd fun K hK => by
    have hw : Region.wanted o (yielded ops a.tmps) = true := by simp [Region.wanted, hgd]
    have := step_append_lit (P := P) (ops := ops) (w := w) (K := K) (Q := Q) (E := True) hgd s x t ho base e i z bytes f hf ht hi hz hsize hby hzs hb16 v l m n hn hs hown b off c hx hnews hnm hbase (fun v' w' h1 h2 h3 => hK _ _ (h v' w' h1 h2 h3))
    rwa [if_pos hw] at this
theorem new_lit (w : World) (t : TypeId) (cs : Array Value) (xs : List Value) (h : cs = xs.toArray) : ∀ j u, xs[j]? = some u → (w.alloc (.cells cs t)).cell? ⟨w.heap.size, 0 + j, none⟩ = some u := by
  subst h
  intro j u hu
  rw [(Blk.new w t _).cell]; simpa using hu
/-- append(v, news...), v and the news the call's own rows (or nil). -/
theorem run_append_rows (w : World) (base base2 : Nat) (t ty e : TypeId) (i : TypeInfo) (z : Value) (bytes : Nat) (f : α → Value) (hf : ∀ x, (f x).oneCell' = true) (ht : P.underlying t = some (.slice e)) (hi : P.info? e = some i) (hz : i.zero = some z)
    (hsize : i.size = 1) (hby : i.bytes = bytes) (hzs : z.cells.size = 1) (v u : Value) (l m : List α) (hv : Own w base e f v l) (hu : Own w base2 e f u m)
    (h63 : l.length + m.length ≤ 1000000) (hbytes : bytes ≤ 16) (hbase : base ≤ w.heap.size) :
    ∃ v' w', (Builtin.append_ #[t, t] ty #[v, u]).run P w = .ok v' w' ∧ Own w' base e f v' (l ++ m) ∧ w.grownBy w' v.ownBlock := by
  have hb1 : (l.length + m.length) * bytes ≤ 140737488355328 := by
    have := Nat.mul_le_mul h63 hbytes; omega
  rcases hu.form with ⟨rfl, rfl⟩ | ⟨g, cap, rfl, _, _, _, _⟩
  · refine ⟨v, w, ?_, by simpa using hv, grown_refl _ _⟩
    rcases hv.form with ⟨rfl, rfl⟩ | ⟨g, cap, rfl, _, _, hc, _⟩
    · simp [Builtin.append_, run_underlying ht, sizeOf, typeInfo, hi, Builtin.lenOf, Builtin.firstCells]
    · simp [Builtin.append_, run_underlying ht, sizeOf, typeInfo, hi, Builtin.lenOf, Builtin.firstCells, loadCells, hc, storeCells]
  · obtain ⟨v', w', h1, h2, h3, _⟩ := run_append_own (P := P) w base t ty e i z 1 bytes ht hi hz hsize hby hzs (by omega) v l.length (l.map f) hv ⟨g, 0, none⟩ m.length cap (m.map f) (by simp) (hu.cells rfl) (by intro x hx; simp at hx; obtain ⟨y, _, rfl⟩ := hx; exact hf y) (by unfold maxLen; omega) hb1 hbase
    exact ⟨v', w', h1, by unfold Own; rw [List.length_append, List.map_append]; exact h2, h3⟩
end
end Go.Proofs.YtidjfinookikcaaDoor
namespace Go.Proofs.YtidjfinookikcaaDoor
open Go.RowKit

/-- A word of 32 bits in a cell of 64. -/
abbrev W64 (x : UInt32) : Value := .int .u64 (n32 x)
theorem le4 (a b c d : UInt8) : n8 a + 256 * n8 b + 65536 * n8 c + 16777216 * n8 d = n32 (le32 [a, b, c, d] 4) := by
  have h1 := a.toNat_lt; have h2 := b.toNat_lt; have h3 := c.toNat_lt; have h4 := d.toNat_lt
  have e : (le32 [a, b, c, d] 4).toNat = (((0 ||| a.toNat <<< 0 % 4294967296) ||| b.toNat <<< 8 % 4294967296) ||| c.toNat <<< 16 % 4294967296) ||| d.toNat <<< 24 % 4294967296 := rfl
  have m1 : b.toNat <<< 8 % 4294967296 = b.toNat <<< 8 := by rw [Nat.shiftLeft_eq]; omega
  have m2 : c.toNat <<< 16 % 4294967296 = c.toNat <<< 16 := by rw [Nat.shiftLeft_eq]; omega
  have m3 : d.toNat <<< 24 % 4294967296 = d.toNat <<< 24 := by rw [Nat.shiftLeft_eq]; omega
  have o1 : a.toNat ||| b.toNat <<< 8 = b.toNat <<< 8 + a.toNat := by rw [Nat.or_comm, Nat.shiftLeft_add_eq_or_of_lt (show a.toNat < 2 ^ 8 by omega)]
  have o2 : (b.toNat <<< 8 + a.toNat) ||| c.toNat <<< 16 = c.toNat <<< 16 + (b.toNat <<< 8 + a.toNat) := by rw [Nat.or_comm, Nat.shiftLeft_add_eq_or_of_lt (show b.toNat <<< 8 + a.toNat < 2 ^ 16 by rw [Nat.shiftLeft_eq]; omega)]
  have o3 : (c.toNat <<< 16 + (b.toNat <<< 8 + a.toNat)) ||| d.toNat <<< 24 = d.toNat <<< 24 + (c.toNat <<< 16 + (b.toNat <<< 8 + a.toNat)) := by rw [Nat.or_comm, Nat.shiftLeft_add_eq_or_of_lt (show c.toNat <<< 16 + (b.toNat <<< 8 + a.toNat) < 2 ^ 24 by rw [Nat.shiftLeft_eq, Nat.shiftLeft_eq]; omega)]
  unfold n8 n32
  rw [e, Nat.zero_or, Nat.shiftLeft_zero, Nat.mod_eq_of_lt (show a.toNat < 4294967296 by omega), m1, m2, m3, o1, o2, o3, Nat.shiftLeft_eq, Nat.shiftLeft_eq, Nat.shiftLeft_eq]
  omega
theorem infoU64 : (Tryd.prog.info? 26).map (fun i => (i.zero, i.size, i.bytes)) = some (some (.int .u64 0), 1, 8) := by kernel_rfl
theorem four_of (l : List UInt8) (k : Nat) (h : k + 4 ≤ l.length) : (l.drop k).take 4 = [l.getD k 0, l.getD (k + 1) 0, l.getD (k + 2) 0, l.getD (k + 3) 0] := by
  rw [List.drop_eq_getElem_cons (by omega), List.drop_eq_getElem_cons (by omega), List.drop_eq_getElem_cons (by omega), List.drop_eq_getElem_cons (by omega)]
  simp only [List.take_succ_cons, List.take_zero, List.getD_eq_getElem?_getD, List.getElem?_eq_getElem (show k < l.length by omega), List.getElem?_eq_getElem (show k + 1 < l.length by omega), List.getElem?_eq_getElem (show k + 2 < l.length by omega), List.getElem?_eq_getElem (show k + 3 < l.length by omega), Option.getD_some]
theorem byte_at (s : ByteArray) (k : Nat) (h : k < s.size) : ((s[k].toNat : Nat) : Int) = n8 (s.data.toList.getD k 0) := by
  have h2 : k < s.data.toList.length := h
  rw [List.getD_eq_getElem?_getD, List.getElem?_eq_getElem h2]; rfl
end Go.Proofs.YtidjfinookikcaaDoor
namespace Go.Proofs.YtidjfinookikcaaDoor
open Go.RowKit

theorem region_tail' {P : Program} {id : Nat} {Q : Exit → Act → World → Prop} {a : Act} {w : World} {l : List Oper} (n : Nat) (hm : P.follows .mixedOrders = true) (hB : Region.lexTailB .any l.toArray n = true)
    (h : wpStill P l.toArray w.drew (fun a' => wpList P l.toArray Q (l.drop n) a' w.drew) (l.take n) a) : (Code.region id l.toArray true).wp P Q a w :=
  wp_region_still_tail n hm hB h
def nAt (k : Nat) : Nat := [16, 12, 8, 7].getD k 0
def qsE (m : List UInt32) (a b d n : Nat) : List UInt32 := (m.set a (m.getD a 0 + m.getD b 0)).set d (rotl32 (m.getD d 0 ^^^ (m.getD a 0 + m.getD b 0)) n)
def qs (l : List UInt32) (a b c d : Nat) : Nat → List UInt32
  | 0 => l
  | k + 1 => if k % 2 = 0 then qsE (qs l a b c d k) a b d (nAt k) else qsE (qs l a b c d k) c d b (nAt k)
theorem length_qs (l : List UInt32) (a b c d k : Nat) : (qs l a b c d k).length = l.length := by
  induction k with
  | zero => rfl
  | succ k ih => rw [qs]; split <;> simp [qsE, ih]
theorem getD_set (l : List UInt32) (i j : Nat) (v : UInt32) (h : i < l.length) : (l.set i v).getD j 0 = if i = j then v else l.getD j 0 := by
  simp only [List.getD_eq_getElem?_getD, List.getElem?_set]
  by_cases e : i = j
  · subst e; simp [h]
  · simp [e]
theorem qs_four (l : List UInt32) (a b c d : Nat) (ha : a < l.length) (hb : b < l.length) (hc : c < l.length) (hd : d < l.length) (hab : a ≠ b) (hac : a ≠ c) (had : a ≠ d) (hbc : b ≠ c) (hbd : b ≠ d) (hcd : c ≠ d) :
    qs l a b c d 4 = quarter l a b c d := by
  apply List.ext_getElem?
  intro i
  have e : ∀ m : List UInt32, m.length = l.length → m[i]? = if i < l.length then some (m.getD i 0) else none := by
    intro m hm
    by_cases h : i < l.length
    · rw [if_pos h, List.getD_eq_getElem?_getD, List.getElem?_eq_getElem (by omega)]; rfl
    · rw [if_neg h, List.getElem?_eq_none (by omega)]
  rw [e _ (length_qs _ _ _ _ _ _), e _ (length_quarter _ _ _ _ _)]
  congr 2
  simp only [qs, qsE, quarter, qmix, nAt, Nat.reduceMod, if_true, Nat.one_ne_zero, if_false, List.getD_cons_zero, List.getD_cons_succ]
  have hba := hab.symm
  have hca := hac.symm
  have hda := had.symm
  have hcb := hbc.symm
  have hdb := hbd.symm
  have hdc := hcd.symm
  simp only [getD_set, List.length_set, *, if_true, if_false]
  by_cases h1 : a = i
  · subst h1; simp [*]
  · by_cases h2 : b = i
    · subst h2; simp [*]
    · by_cases h3 : c = i
      · subst h3; simp [*]
      · by_cases h4 : d = i
        · subst h4; simp [*]
        · simp [h1, h2, h3, h4]
theorem xor_w64 (x y : UInt32) : bits .xor .u64 (n32 x) (n32 y) = n32 (x ^^^ y) := by
  rw [n64_of_n32, n64_of_n32, xor_n64, n64_of_n32]; rfl
theorem add_w64 (x y : UInt32) : IntKind.u64.wrap (n32 x + n32 y) % 4294967296 = n32 (x + y) := by
  have := n32_lt x; have := n32_lt y; have := n32_nonneg x; have := n32_nonneg y
  rw [wrap_u64, ← add_n32']; omega
def QRel (w : World) (V : Value) (l : List UInt32) (bK : Nat) (wr : World) : Prop :=
  Own wr w.heap.size 26 W64 V l ∧ Below w.heap.size w wr ∧ Blk wr bK 3 #[.int .i64 16, .int .i64 12, .int .i64 8, .int .i64 7]
theorem nAt_cell (k : Nat) (h : k < 4) : (#[.int .i64 16, .int .i64 12, .int .i64 8, .int .i64 7] : Array Value)[k]? = some (.int .i64 (nAt k : Int)) := by
  match k, h with
  | 0, _ => rfl
  | 1, _ => rfl
  | 2, _ => rfl
  | 3, _ => rfl
end Go.Proofs.YtidjfinookikcaaDoor
namespace Go.Proofs.YtidjfinookikcaaDoor
open Go.RowKit

theorem sigma_words : leWords (ByteArray.mk #[101, 120, 112, 97, 110, 100, 32, 51, 50, 45, 98, 121, 116, 101, 32, 107]).data.toList 4 = sigma := by decide
theorem infoU8 : (Tryd.prog.info? 5).map (fun i => (i.zero, i.size, i.bytes)) = some (some (.int .u8 0), 1, 1) := by kernel_rfl
theorem byteL_ref (y : UInt32) : IntKind.u8.wrap (n32 y % 256) = n8 (byteL y 0) ∧ IntKind.u8.wrap (n32 y / 256 % 256) = n8 (byteL y 1) ∧ IntKind.u8.wrap (n32 y / 65536 % 256) = n8 (byteL y 2) ∧ IntKind.u8.wrap (n32 y / 16777216) = n8 (byteL y 3) := by
  have h : ∀ k, k < 4 → n8 (byteL y k) = n32 y / 2 ^ (8 * k) % 256 := fun k hk => by rw [← byteL_eq y k hk, wrap_u8]
  have h0 := n32_nonneg y
  refine ⟨?_, ?_, ?_, ?_⟩
  · rw [h 0 (by omega), wrap_u8]; simp
  · rw [h 1 (by omega), wrap_u8]; simp
  · rw [h 2 (by omega), wrap_u8]; simp
  · rw [h 3 (by omega), wrap_u8]; simp
def BRf (w : World) (V at_ : Value) (l m : List UInt32) (wr : World) : Prop := Own wr w.heap.size 26 W64 V m ∧ Own wr w.heap.size 26 W64 at_ l ∧ Below w.heap.size w wr
def BOut (w : World) (gx cx ga ca : Nat) (l : List UInt32) (j : Nat) (V : Value) (wx : World) : Prop :=
  Own wx w.heap.size 5 U8 V (outBytes ((cSums l).take j)) ∧ Own wx w.heap.size 26 W64 (.slice (some ⟨gx, 0, none⟩) 16 cx) (rnds l 10) ∧ Own wx w.heap.size 26 W64 (.slice (some ⟨ga, 0, none⟩) 16 ca) l ∧ Below w.heap.size w wx
end Go.Proofs.YtidjfinookikcaaDoor
namespace Go.Proofs.YtidjfinookikcaaDoor
open Go.RowKit
theorem run_string_own {P : Program} {w : World} {base : Nat} {v : Value} {l : List UInt8} (s d e : TypeId) (h : Own w base e U8 v l) (hs : P.underlying s = some (.slice e)) (he : P.underlying e = some (.int .u8)) (hd : P.underlying d = some .string) :
    (convert s d v).run P w = .ok (.string ⟨l.toArray⟩) w := by
  rcases h.form with ⟨rfl, rfl⟩ | ⟨g, cap, rfl, _⟩
  · exact run_convert_bytes_nil w s e hs he 0 0 d hd
  · exact run_convert_bytes_back w s d e _ cap l hs he hd (cells_of_bytes h.bytes)
theorem wpList_string_own {P : Program} {w : World} {ops : Array Oper} {rest : List Oper} {o : Oper} {a : Act} {Q : Exit → Act → World → Prop} (hgd : o.guard = none) (s d e : TypeId) (x : Operand)
    (ho : o.op = .convert s d x) (hs : P.underlying s = some (.slice e)) (he : P.underlying e = some (.int .u8)) (hd : P.underlying d = some .string) (base : Nat) (v : Value) (l : List UInt8) (hown : Own w base e U8 v l) (hx : a.eval x = v)
    (h : wpList P ops Q rest (a.put o.dst (.string ⟨l.toArray⟩)) w) : wpList P ops Q (o :: rest) a w :=
  wpList_convert_run w hgd s d x ho v hx _ _ (run_string_own s d e hown hs he hd) h
end Go.Proofs.YtidjfinookikcaaDoor
namespace Go.Proofs.YtidjfinookikcaaDoor
open Go.RowKit

def XR (w : World) (K N S : ByteArray) (C : UInt32) (n : Nat) (V b i : Value) (wr : World) : Prop :=
  ∃ (j : Nat) (B : List UInt8), j ≤ n ∧ i = .int .i64 j ∧ b = .string ⟨B.toArray⟩ ∧ Own wr w.heap.size 5 U8 V ((cXor K.data.toList C N.data.toList S.data.toList).take j) ∧ Below w.heap.size w wr ∧ (j = 0 ∨ B = cBlock K.data.toList (C + UInt32.ofNat ((j - 1) / 64)) N.data.toList)
theorem cXor_take (key nonce s : List UInt8) (C : UInt32) (i : Nat) (h : i < s.length) : (cXor key C nonce s).take (i + 1) = (cXor key C nonce s).take i ++ [s.getD i 0 ^^^ (cBlock key (C + UInt32.ofNat (i / 64)) nonce).getD (i % 64) 0] := by
  have h2 : i < (cXor key C nonce s).length := by rw [length_cXor]; exact h
  have e := get_cXor key C nonce s i h
  rw [List.getElem?_eq_getElem h2] at e
  rw [List.take_succ_eq_append_getElem h2, Option.some.inj e, List.getD_eq_getElem?_getD (l := s), List.getElem?_eq_getElem h]
  rfl
end Go.Proofs.YtidjfinookikcaaDoor
namespace Go.Proofs.YtidjfinookikcaaDoor
open Go.RowKit
theorem len_data' (s : ByteArray) : s.data.toList.length = s.size := rfl
/-- string(b) under a guard that says yes. -/
theorem wpList_string_of_g {P : Program} (w : World) {ops : Array Oper} {rest : List Oper} {o : Oper} {a : Act} {Q : Exit → Act → World → Prop} (hw : Region.wanted o (yielded ops a.tmps) = true) (s d e : TypeId) (x : Operand)
    (ho : o.op = .convert s d x) (hs : P.underlying s = some (.slice e)) (he : P.underlying e = some (.int .u8)) (hd : P.underlying d = some .string)
    (b off n c : Nat) (bs : List UInt8) (hx : a.eval x = .slice (some ⟨b, off, none⟩) n c) (hn : bs.length = n) (hb : Bytes w b off bs)
    (h : wpList P ops Q rest (a.put o.dst (.string ⟨bs.toArray⟩)) w) : wpList P ops Q (o :: rest) a w := by
  subst hn
  refine wpList_step fun K hK => ?_
  rw [if_pos hw]
  have hr := run_convert_bytes_back (P := P) w s d e _ c bs hs he hd (cells_of_bytes hb)
  unfold Oper.wp execOp
  simp only [ho, hx, Sem.run_bind, Sem.run_pure, Result.andThen_ok, hr]
  exact hK _ _ h

set_option maxHeartbeats 400000 in
theorem cut_any (s : ByteArray) (n : Int) (w : World) (_hs : s.size ≤ maxLen) (h0 : 0 ≤ n) (hn : n ≤ 1000) :
    Calls Tryd.prog 7 #[.string s, .int .i64 n] w fun e w' => ∃ t : ByteArray, e = .returned (.string t) ∧ t.size ≤ n ∧ t.data.toList = s.data.toList.take n.toNat ∧ w = w' := by
  unfold maxLen at _hs
  obtain ⟨m, rfl⟩ := Int.eq_ofNat_of_zero_le h0
  by_cases hlt : m < s.size
  · go_enter Tryd.func7, Tryd.ntmps7
    go_wp2
    go_ret
    exact ⟨_, rfl, by simp; omega, by simp [ByteArray.data_extract], rfl⟩
  · go_enter Tryd.func7, Tryd.ntmps7
    go_wp2
    go_ret
    exact ⟨s, rfl, by omega, by rw [List.take_of_length_le]; rw [Int.toNat_natCast]; show s.size ≤ m; omega, rfl⟩

theorem one_new (w : World) (t : TypeId) (X : Array Value) : ∃ w3 : World, w3 = w.alloc (.cells X t) ∧ Below w.heap.size w w3 ∧ Blk w3 w.heap.size t X ∧ w3.heap.size = w.heap.size + 1 :=
  ⟨_, rfl, (Below.refl _ _).alloc (Nat.le_refl _) _, Blk.new w t X, by simp⟩
end Go.Proofs.YtidjfinookikcaaDoor
namespace Go.Proofs.YtidjfinookikcaaDoor
open Go.RowKit
/-- The table of the quarter rounds, as a known block. -/
def qsTab : List Int := (List.range 32).map fun i => (qAt (i / 4) (i % 4) : Int)
def HQ (e : Nat) : List (Nat × Option ABlk) := [(3, some ⟨.aggI qsTab, e, false⟩)]
theorem qsTab_get (i j : Nat) (hi : i < 8) (hj : j < 4) : (AV.aggI qsTab).list[4 * i + j]? = some (.i64 (qAt i j : Int)) := by
  have h : 4 * i + j < 32 := by omega
  simp only [AV.list, AV.parts, Option.getD_some, qsTab, List.map_map, List.getElem?_map, List.getElem?_range h, Option.map_some, Function.comp]
  rw [show (4 * i + j) / 4 = i by omega, show (4 * i + j) % 4 = j by omega]
theorem qat_of {E : Emb} {S : Nat → Prop} {e : Nat} {w : World} (hg : ∀ g, g < 400 → ∃ s, E g = some (g, s)) (hR : RH E S (hget (HQ e)) w) : QAt w := fun i j hi hj => by
  obtain ⟨y, h1, h2⟩ := tab_cell hR hg (g := 3) (by decide) (k := ⟨.aggI qsTab, e, false⟩) rfl (qsTab_get i j hi hj)
  rw [h1, h2.i64_inv]
theorem u32_rel (E : Emb) (c : UInt32) : Rel E (.u32 c) (U32 c) := .u32 c
theorem cxor_ev (e : Nat) (key nonce s : List UInt8) (ctr : UInt32) (hk : key.length = 32) (hn : nonce.length = 12) (hs : s.length ≤ 1000000) : Meets Tryd.prog 27 [.aggB key, .u32 ctr, .aggB nonce, .str s] (HQ e) (.str (cXor key ctr nonce s)) [] :=
  meets_of_walk fun E S vals w hg hl hr hR => by
    obtain ⟨a, b, c, d, rfl, ha, hb, hc, hd⟩ := args4 hl hr
    rw [relB_inv ha, hb.u32_inv, relB_inv hc, hd.str_inv]
    exact (cxor_any key nonce ctr ⟨s.toArray⟩ w hk hn (by simpa [ByteArray.size] using hs) (qat_of hg hR)).mono fun ed w' ⟨h1, h2⟩ => ⟨_, h1, .str _, h2⟩
theorem cblock_ev (e : Nat) (key nonce : List UInt8) (ctr : UInt32) (hk : key.length = 32) (hn : nonce.length = 12) : Meets Tryd.prog 41 [.aggB key, .u32 ctr, .aggB nonce] (HQ e) (.aggB (cBlock key ctr nonce)) [] :=
  meets_of_walk fun E S vals w hg hl hr hR => by
    obtain ⟨a, b, c, rfl, ha, hb, hc⟩ := args3 hl hr
    rw [relB_inv ha, hb.u32_inv, relB_inv hc]
    exact (cblock_any key nonce ctr w hk hn (qat_of hg hR)).mono fun ed w' ⟨h1, h2⟩ => ⟨_, h1, rel_bytes _ _, h2⟩
end Go.Proofs.YtidjfinookikcaaDoor
