/-
  Conversions between strings and slices of bytes, and make, as laws of a walk that leave the world unnamed. Nothing of the program is named here.
-/
import Derived.Test.YtaenhghihhhikaaDoorM
import Derived.Laws.IdiomStrings
namespace Go.Proofs.YtaenhghihhhikaaDoor
open Go.RowKit

section
variable {P : Program}
theorem wpList_convert_run (w : World) {ops : Array Oper} {rest : List Oper} {o : Oper} {a : Act} {Q : Exit → Act → World → Prop} (hgd : o.guard = none) (s d : TypeId) (x : Operand)
    (ho : o.op = .convert s d x) (vx : Value) (hx : a.eval x = vx)
    (v' : Value) (w' : World) (hr : (convert s d vx).run P w = .ok v' w') (h : wpList P ops Q rest (a.put o.dst v') w') : wpList P ops Q (o :: rest) a w := by
  refine wpList_plain hgd fun K hK => ?_
  unfold Oper.wp execOp
  simp only [ho, hx, Sem.run_bind, Sem.run_pure, Result.andThen_ok, hr]
  exact hK _ _ h
theorem cells_of_bytes {w : World} {b o : Nat} {bs : List UInt8} (h : Bytes w b o bs) : ∀ j (hj : j < bs.length), w.cell? ((⟨b, o, none⟩ : Addr).add j) = some (.int .u8 (bs[j].toNat : Int)) := by
  intro j hj
  have e : (⟨b, o, none⟩ : Addr).add j = ⟨b, o + j, none⟩ := by unfold Addr.add; split <;> simp_all
  rw [e]; exact h j hj
/-- string(b), b's cells being bs. -/
theorem wpList_string_of (w : World) {ops : Array Oper} {rest : List Oper} {o : Oper} {a : Act} {Q : Exit → Act → World → Prop} (hgd : o.guard = none) (s d e : TypeId) (x : Operand)
    (ho : o.op = .convert s d x) (hs : P.underlying s = some (.slice e)) (he : P.underlying e = some (.int .u8)) (hd : P.underlying d = some .string)
    (b off n c : Nat) (bs : List UInt8) (hx : a.eval x = .slice (some ⟨b, off, none⟩) n c) (hn : bs.length = n) (hb : Bytes w b off bs)
    (h : wpList P ops Q rest (a.put o.dst (.string ⟨bs.toArray⟩)) w) : wpList P ops Q (o :: rest) a w := by
  subst hn
  exact wpList_convert_run w hgd s d x ho _ hx _ _ (run_convert_bytes_back w s d e _ c bs hs he hd (cells_of_bytes hb)) h
theorem blk_of_own {w : World} {base e g n : Nat} {xs : List Value} (h : w.ownsRow base e 1 (.slice (some ⟨g, 0, none⟩) n n) n xs) : Blk w g e xs.toArray := by
  obtain ⟨hl, h | ⟨g', cap, cur, hv, _, hh, _, _, hsz, htk⟩⟩ := h
  · cases h.1
  · injection hv with h1 h2 h3
    injection h1 with h1
    injection h1 with h1
    subst h1; subst h3
    unfold Blk
    rw [hh, ← htk, List.take_of_length_le (by simp; omega)]
theorem madeCells_one (v : Value) (n : Nat) : (madeCells #[v] n).toList = List.replicate n v := by
  apply List.ext_getElem?
  intro i
  simp only [madeCells, Array.toList_map, Array.toList_range, List.getElem?_map, List.getElem?_replicate]
  by_cases h : i < n <;> simp [h, Nat.mod_one]
/-- make([]T, n), T of one cell. -/
theorem wpList_make_blk (w : World) {ops : Array Oper} {rest : List Oper} {o : Oper} {a : Act} {Q : Exit → Act → World → Prop}
    (hg : o.guard = none) (l c : Operand) (t : TypeId) (hop : o.op = Op.makeSlice t l c)
    (e : TypeId) (i : TypeInfo) (z : Value) (hz : z.cells = #[z]) (h1 : P.underlying t = some (.slice e)) (h2 : P.info? e = some i) (h3 : i.zero = some z) (h4 : i.size = 1)
    (kl kc : IntKind) (L C : Int) (n : Nat) (hl : a.eval l = .int kl L) (hc : a.eval c = .int kc C) (hL : L = (n : Int)) (hC : C = (n : Int)) (b2 : i.bytes * n ≤ 281474976710656) (b3 : n ≤ maxLen)
    (hK : ∀ w', Blk w' w.heap.size e (Array.replicate n z) → Below w.heap.size w w' → w.heap.size < w'.heap.size → wpList P ops Q rest (a.put o.dst (.slice (some ⟨w.heap.size, 0, none⟩) n n)) w') :
    wpList P ops Q (o :: rest) a w :=
  wpList_make_full w hg l c t hop w.heap.size e i z 1 h1 h2 h3 h4 kl kc L C n hl hc hL hC b2 b3 (Nat.le_refl _) fun w' hown hgr => by
    have hb := blk_of_own hown
    rw [hz, Nat.mul_one, madeCells_one] at hb
    have hb' : Blk w' w.heap.size e (Array.replicate n z) := blk_cast hb (by simp)
    exact hK w' hb' ((Below.refl _ _).grown hgr (Nat.le_refl _) (fun k hk => by cases hk)) hb'.lt
end
theorem bytes_of_blk {w : World} {g t : Nat} {bs : List UInt8} {cs : Array Value} (h : Blk w g t cs) (o n : Nat) (hc : ∀ j, j < n → cs[o + j]? = some (U8 (bs.getD j 0))) (hn : bs.length = n) : Bytes w g o bs := by
  intro j hj
  rw [h.cell, hc j (by omega)]
  simp [List.getD_eq_getElem?_getD, hj]
end Go.Proofs.YtaenhghihhhikaaDoor
