/-
  Texts of this claim.
-/
import Derived.Below
import Derived.Laws.AppendOwn
import Derived.Laws.IdiomStrings
import Derived.RowKit3
import Derived.Orders
import Derived.Tactics
namespace Go.Proofs.YtdpdmgbdipokdaaDoor
open Go.RowKit
def DrOk (w w' : World) : Prop := w.drawn ≤ w'.drawn
theorem DrOk.refl (w : World) : DrOk w w := Nat.le_refl _
theorem DrOk.trans {a b c : World} (h : DrOk a b) (k : DrOk b c) : DrOk a c := Nat.le_trans h k
theorem DrOk.drew {a w : World} (h : DrOk a w) : DrOk a w.drew := Nat.le_succ_of_le h
theorem DrOk.same {w w' : World} (h : w'.drawn = w.drawn) : DrOk w w' := Nat.le_of_eq h.symm
/-- What a contract over worlds says of the world behind the call. -/
def BelowD (w w' : World) : Prop := Below w.heap.size w w' ∧ DrOk w w'
theorem BelowD.below {w w' : World} (h : BelowD w w') : Below w.heap.size w w' := h.1
theorem BelowD.dr {w w' : World} (h : BelowD w w') : DrOk w w' := h.2
theorem BelowD.of_eq {w w' : World} (h : w' = w) : BelowD w w' := by subst h; exact ⟨⟨rfl, rfl, rfl, Nat.le_refl _, fun _ _ => rfl⟩, .refl _⟩
end Go.Proofs.YtdpdmgbdipokdaaDoor
namespace Go.Proofs.YtdpdmgbdipokdaaDoor
open Go.RowKit

/-- An abstract value: numbers, strings, pointers and slices into named blocks, rows of cells. -/
inductive AV where
  | u8 (x : UInt8)
  | u32 (x : UInt32)
  | u64 (x : UInt64)
  | i64 (x : Int)
  | bool (b : Bool)
  | str (s : List UInt8)
  | ptr (b o : Nat)
  | sl (b o n z : Nat)
  | nilsl
  | agg (cs : List AV)
  | aggB (l : List UInt8)
  | agg32 (l : List UInt32)
  | agg64 (l : List UInt64)
  | aggI (l : List Int)
  | aggS (l : List (List UInt8))
  | aggT (l : List Bool)
  | tup (cs : List AV)
  | ifc (t : Nat) (v : AV)
  | clo (f : Nat) (cs : List AV)
  | err (t e : Nat) (o : Nat × Nat)
  | val (v : Value)
  | hole
  | slk (b o n c : Nat) (x : Bool)
  | dsl (l : List (List UInt8))
  | aggD (l : List (List (List UInt8)))
  | dptr (l : List (List UInt8))
  | fsl (cs : List AV) (n z : Nat)
  | fptr (cs : List AV)
  | mp (b : Nat)
  | mapc (ks : List Value) (vs : List AV) (bs : List Nat) (clk : Nat)
  | mapv (l : List (Value × Value × Nat)) (clk : Nat)
  | iter (b since : Nat) (seen : List Nat) (last : Nat)
  deriving Inhabited
/-- The cells of a row. -/
def AV.parts : AV → Option (List AV)
  | .agg cs => some cs
  | .aggB l => some (l.map .u8)
  | .agg32 l => some (l.map .u32)
  | .agg64 l => some (l.map .u64)
  | .aggI l => some (l.map .i64)
  | .aggS l => some (l.map .str)
  | .aggT l => some (l.map .bool)
  | .aggD l => some (l.map .dsl)
  | _ => none
/-- The entries of a map: keys and elements. -/
def AV.ents : AV → Option (List Value × List AV × List Nat × Nat)
  | .mapc ks vs bs clk => some (ks, vs, bs, clk)
  | .mapv l clk => some (l.map (·.1), l.map (fun p => .val p.2.1), l.map (·.2.2), clk)
  | _ => none
def AV.isMap : AV → Bool
  | .mapc _ _ _ _ | .mapv _ _ | .iter _ _ _ _ => true
  | _ => false
def AV.list (a : AV) : List AV := a.parts.getD []
def AV.one : AV → Bool
  | .agg _ | .aggB _ | .agg32 _ | .agg64 _ | .aggI _ | .aggS _ | .aggT _ | .aggD _ | .tup _ => false
  | .val v => v.oneCell'
  | .hole => false
  | .mapc _ _ _ _ | .mapv _ _ | .iter _ _ _ _ => false
  | _ => true

/-- A value that may lie in a slice that is never written again: it names no block. -/
def AV.still : AV → Bool
  | .u8 _ | .u32 _ | .u64 _ | .i64 _ | .bool _ | .str _ | .dsl _ | .fsl _ _ _ => true
  | _ => false

/-- A cell of a block: one value, or a hole, of which nothing is known. -/
def AV.cell : AV → Bool
  | .hole => true
  | x => x.one
theorem AV.cell_of {x : AV} (h : x.one = true) : x.cell = true := by cases x <;> first | rfl | exact h
/-- A row without holes. -/
def AV.rowWhole : AV → Bool
  | .agg cs => cs.all AV.one
  | _ => true

/-- Where a named block lies, and how many cells it has. -/
structure Emb where
  f : Nat → Option (Nat × Nat)
  /-- What lies at a place that is never written again: values, and how many cells the place has. -/
  d : Nat → Option ((Nat → Option Value) × Nat)
instance : CoeFun Emb (fun _ => Nat → Option (Nat × Nat)) := ⟨Emb.f⟩
/-- What lies still in one lies so in the other. -/
def Emb.dle (E E' : Emb) : Prop := ∀ a p, E.d a = some p → E'.d a = some p
/-- What one knows the other knows. -/
def Emb.le (E E' : Emb) : Prop := (∀ b p, E b = some p → E' b = some p) ∧ E.dle E'
def Emb.nil : Emb := ⟨fun _ => none, fun _ => none⟩
theorem Emb.nil_le (E : Emb) : Emb.nil.le E := ⟨fun _ _ h => (by cases h), fun _ _ h => (by cases h)⟩
theorem Emb.dle_refl (E : Emb) : E.dle E := fun _ _ h => h
theorem Emb.dle_trans {E E1 E2 : Emb} (h : E.dle E1) (h1 : E1.dle E2) : E.dle E2 := fun a p x => h1 a p (h a p x)

inductive Rel (E : Emb) : AV → Value → Prop
  | u8 (x : UInt8) : Rel E (.u8 x) (.int .u8 (x.toNat : Int))
  | u32 (x : UInt32) : Rel E (.u32 x) (.int .u32 (x.toNat : Int))
  | u64 (x : UInt64) : Rel E (.u64 x) (.int .u64 (x.toNat : Int))
  | i64 (x : Int) : Rel E (.i64 x) (.int .i64 x)
  | bool (b : Bool) : Rel E (.bool b) (.bool b)
  | str (s : List UInt8) : Rel E (.str s) (.string ⟨s.toArray⟩)
  | ptr (b o l s : Nat) : E b = some (l, s) → Rel E (.ptr b o) (.pointer (some ⟨l, o, none⟩))
  | sl (b o n z l s c : Nat) : E b = some (l, s) → n ≤ c → c ≤ maxLen → o + c * z ≤ s → Rel E (.sl b o n z) (.slice (some ⟨l, o, none⟩) n c)
  | sl0 (b o z : Nat) (ad : Option Addr) : Rel E (.sl b o 0 z) (.slice ad 0 0)
  | nilsl : Rel E .nilsl (.slice none 0 0)
  | agg (a : AV) (cs : List AV) (ds : Array Value) : a.parts = some cs → cs.length = ds.size → (∀ x ∈ cs, x.one = true) → (∀ (i : Nat) x y, cs[i]? = some x → ds[i]? = some y → Rel E x y) → Rel E a (.agg ds)
  | tup (cs : List AV) (ds : Array Value) : cs.length = ds.size → (∀ (i : Nat) x y, cs[i]? = some x → ds[i]? = some y → Rel E x y) → Rel E (.tup cs) (.tuple ds)
  | ifc (t : Nat) (x : AV) (y : Value) : Rel E x y → Rel E (.ifc t x) (.iface t y)
  | clo (f : Nat) (cs : List AV) (ds : Array Value) : cs.length = ds.size → (∀ (i : Nat) x y, cs[i]? = some x → ds[i]? = some y → Rel E x y) → Rel E (.clo f cs) (.func (.func f) #[] ds)
  | err0 (t : Nat) (o : Nat × Nat) : Rel E (.err t 0 o) .nilIface
  | errS (t n : Nat) (o : Nat × Nat) (s : Nat) : n < 99 → E (401 + n) = some (o.1, s) → Rel E (.err t (n + 1) o) (.iface t (.pointer (some ⟨o.1, o.2, none⟩)))
  | val (v : Value) : Rel E (.val v) v
  | hole (v : Value) : Rel E .hole v
  | slk (b o n c c' l s : Nat) (x : Bool) : E b = some (l, s) → n ≤ c → c ≤ c' → (x = true → c' = c) → c' ≤ maxLen → o + c' ≤ s → Rel E (.slk b o n c x) (.slice (some ⟨l, o, none⟩) n c')
  | dsl (l : List (List UInt8)) (L : Nat → Option Value) (a o c s : Nat) : E.d a = some (L, s) → (∀ (i : Nat) x, l[i]? = some x → L (o + i) = some (.string ⟨x.toArray⟩)) → l.length ≤ c → c ≤ maxLen → o + c ≤ s → Rel E (.dsl l) (.slice (some ⟨a, o, none⟩) l.length c)
  | dsl0 (ad : Option Addr) : Rel E (.dsl []) (.slice ad 0 0)
  | dptr (l : List (List UInt8)) (L : Nat → Option Value) (a o s : Nat) : E.d a = some (L, s) → (∀ (i : Nat) x, l[i]? = some x → L (o + i) = some (.string ⟨x.toArray⟩)) → 0 < l.length → Rel E (.dptr l) (.pointer (some ⟨a, o, none⟩))
  | fsl (cs : List AV) (n z : Nat) (L : Nat → Option Value) (g : Nat → Value) (a o c s : Nat) : E.d a = some (L, s) → cs.length = n * z → (∀ x ∈ cs, x.still = true) → (∀ (i : Nat), i < cs.length → L (o + i) = some (g i)) → (∀ (i : Nat) x, cs[i]? = some x → Rel E x (g i)) → n ≤ c → c ≤ maxLen → o + c * z ≤ s → Rel E (.fsl cs n z) (.slice (some ⟨a, o, none⟩) n c)
  | fsl0 (z : Nat) (ad : Option Addr) : Rel E (.fsl [] 0 z) (.slice ad 0 0)
  | fptr (cs : List AV) (L : Nat → Option Value) (g : Nat → Value) (a o s : Nat) : E.d a = some (L, s) → (∀ x ∈ cs, x.still = true) → (∀ (i : Nat), i < cs.length → L (o + i) = some (g i)) → (∀ (i : Nat) x, cs[i]? = some x → Rel E x (g i)) → 0 < cs.length → Rel E (.fptr cs) (.pointer (some ⟨a, o, none⟩))
  | mp (b l : Nat) : E b = some (l, 0) → Rel E (.mp b) (.map (some l))

section
variable {E E' : Emb} {y : Value}
/-- What comes to lie still comes to do so at places of S. -/
def Emb.dx (S : Nat → Prop) (E E' : Emb) : Prop := ∀ a, E'.d a = E.d a ∨ (E.d a = none ∧ S a)
theorem Emb.dx_refl (S : Nat → Prop) (E : Emb) : Emb.dx S E E := fun _ => .inl rfl
theorem Emb.dx.trans {S : Nat → Prop} {E E1 E2 : Emb} (h : Emb.dx S E E1) (k : Emb.dx S E1 E2) : Emb.dx S E E2 := fun a => by
  rcases k a with e | ⟨e, hs⟩
  · rw [e]; exact h a
  · rcases h a with e1 | e1
    · exact .inr ⟨e1.symm.trans e, hs⟩
    · exact .inr e1
theorem Emb.dx.dle {S : Nat → Prop} {E E1 : Emb} (h : Emb.dx S E E1) : E.dle E1 := fun a p hp => by
  rcases h a with e | ⟨e, _⟩
  · rw [e]; exact hp
  · rw [e] at hp; cases hp
/-- The low names are kept, and what lies still. -/
def Emb.kp (S : Nat → Prop) (E E' : Emb) : Prop := (∀ b, b < 1000 → E' b = E b) ∧ Emb.dx S E E'
theorem Emb.kp_refl (S : Nat → Prop) (E : Emb) : Emb.kp S E E := ⟨fun _ _ => rfl, fun _ => .inl rfl⟩
theorem Emb.kp.trans {S : Nat → Prop} {E E1 E2 : Emb} (h : Emb.kp S E E1) (k : Emb.kp S E1 E2) : Emb.kp S E E2 := ⟨fun b hb => (k.1 b hb).trans (h.1 b hb), h.2.trans k.2⟩
theorem Emb.le_refl (E : Emb) : E.le E := ⟨fun _ _ h => h, fun _ _ h => h⟩
theorem Rel.mono (hE : E.le E') {x : AV} {y : Value} (h : Rel E x y) : Rel E' x y := by
  induction h with
  | u8 x => exact .u8 x
  | u32 x => exact .u32 x
  | u64 x => exact .u64 x
  | i64 x => exact .i64 x
  | bool b => exact .bool b
  | str s => exact .str s
  | ptr b o l s h => exact .ptr b o l s (hE.1 _ _ h)
  | sl b o n z l s c h h1 h2 h3 => exact .sl b o n z l s c (hE.1 _ _ h) h1 h2 h3
  | sl0 b o z ad => exact .sl0 b o z ad
  | nilsl => exact .nilsl
  | agg a cs ds h1 h2 h3 _ ih => exact .agg a cs ds h1 h2 h3 ih
  | tup cs ds h2 _ ih => exact .tup cs ds h2 ih
  | ifc t x y _ ih => exact .ifc t x y ih
  | clo f cs ds h2 _ ih => exact .clo f cs ds h2 ih
  | err0 t o => exact .err0 t o
  | errS t n o s h0 h => exact .errS t n o s h0 (hE.1 _ _ h)
  | val v => exact .val v
  | hole v => exact .hole v
  | slk b o n c c' l s x h h1 h2 h3 h4 h5 => exact .slk b o n c c' l s x (hE.1 _ _ h) h1 h2 h3 h4 h5
  | dsl l L a o c s h h1 h2 h3 h4 => exact .dsl l L a o c s (hE.2 _ _ h) h1 h2 h3 h4
  | dsl0 ad => exact .dsl0 ad
  | dptr l L a o s h h1 h2 => exact .dptr l L a o s (hE.2 _ _ h) h1 h2
  | fsl cs n z L g a o c s h h0 h1 h2 _ h4 h5 h6 ih => exact .fsl cs n z L g a o c s (hE.2 _ _ h) h0 h1 h2 ih h4 h5 h6
  | fsl0 z ad => exact .fsl0 z ad
  | fptr cs L g a o s h h1 h2 _ h4 ih => exact .fptr cs L g a o s (hE.2 _ _ h) h1 h2 ih h4
  | mp b l h => exact .mp b l (hE.1 _ _ h)
theorem Rel.u8_inv {x : UInt8} (h : Rel E (.u8 x) y) : y = .int .u8 (x.toNat : Int) := by
  cases h with
  | u8 => rfl
  | agg _ _ _ h => cases h
theorem Rel.u32_inv {x : UInt32} (h : Rel E (.u32 x) y) : y = .int .u32 (x.toNat : Int) := by
  cases h with
  | u32 => rfl
  | agg _ _ _ h => cases h
theorem Rel.u64_inv {x : UInt64} (h : Rel E (.u64 x) y) : y = .int .u64 (x.toNat : Int) := by
  cases h with
  | u64 => rfl
  | agg _ _ _ h => cases h
theorem Rel.i64_inv {x : Int} (h : Rel E (.i64 x) y) : y = .int .i64 x := by
  cases h with
  | i64 => rfl
  | agg _ _ _ h => cases h
theorem Rel.bool_inv {x : Bool} (h : Rel E (.bool x) y) : y = .bool x := by
  cases h with
  | bool => rfl
  | agg _ _ _ h => cases h
theorem Rel.str_inv {x : List UInt8} (h : Rel E (.str x) y) : y = .string ⟨x.toArray⟩ := by
  cases h with
  | str => rfl
  | agg _ _ _ h => cases h
theorem Rel.val_inv {v : Value} (h : Rel E (.val v) y) : y = v := by
  cases h with
  | val => rfl
  | agg _ _ _ h => cases h
theorem Rel.nilsl_inv (h : Rel E .nilsl y) : y = .slice none 0 0 := by
  cases h with
  | nilsl => rfl
  | agg _ _ _ h => cases h
theorem Rel.ptr_inv {b o : Nat} (h : Rel E (.ptr b o) y) : ∃ l s, E b = some (l, s) ∧ y = .pointer (some ⟨l, o, none⟩) := by
  cases h with
  | ptr _ _ l s h => exact ⟨l, s, h, rfl⟩
  | agg _ _ _ h => cases h
theorem Rel.sl_inv {b o n z : Nat} (h : Rel E (.sl b o n z) y) : (∃ l s c, E b = some (l, s) ∧ n ≤ c ∧ c ≤ maxLen ∧ o + c * z ≤ s ∧ y = .slice (some ⟨l, o, none⟩) n c) ∨ (∃ ad, n = 0 ∧ y = .slice ad 0 0) := by
  cases h with
  | sl _ _ _ _ l s c h h1 h2 h3 => exact .inl ⟨l, s, c, h, h1, h2, h3, rfl⟩
  | sl0 _ _ _ ad => exact .inr ⟨ad, rfl, rfl⟩
  | agg _ _ _ h => cases h
theorem Rel.slk_inv {b o n c : Nat} {x : Bool} (h : Rel E (.slk b o n c x) y) : ∃ l s c', E b = some (l, s) ∧ n ≤ c ∧ c ≤ c' ∧ (x = true → c' = c) ∧ c' ≤ maxLen ∧ o + c' ≤ s ∧ y = .slice (some ⟨l, o, none⟩) n c' := by
  cases h with
  | slk _ _ _ _ c' l s _ h h1 h2 h3 h4 h5 => exact ⟨l, s, c', h, h1, h2, h3, h4, h5, rfl⟩
  | agg _ _ _ h => cases h
theorem Rel.ifc_inv {t : Nat} {x : AV} (h : Rel E (.ifc t x) y) : ∃ z, y = .iface t z ∧ Rel E x z := by
  cases h with
  | ifc _ _ z h => exact ⟨z, rfl, h⟩
  | agg _ _ _ h => cases h
theorem Rel.agg_inv {a : AV} {cs : List AV} (ha : a.parts = some cs) (h : Rel E a y) : ∃ ds, y = .agg ds ∧ cs.length = ds.size ∧ (∀ x ∈ cs, x.one = true) ∧ (∀ (i : Nat) x y, cs[i]? = some x → ds[i]? = some y → Rel E x y) := by
  cases h with
  | agg _ cs' ds h1 h2 h3 h4 =>
    rw [ha] at h1; injection h1 with h1; subst h1
    exact ⟨ds, rfl, h2, h3, h4⟩
  | _ => cases ha
theorem Rel.tup_inv {cs : List AV} (h : Rel E (.tup cs) y) : ∃ ds, y = .tuple ds ∧ cs.length = ds.size ∧ (∀ (i : Nat) x y, cs[i]? = some x → ds[i]? = some y → Rel E x y) := by
  cases h with
  | tup _ ds h1 h2 => exact ⟨ds, rfl, h1, h2⟩
  | agg _ _ _ h => cases h
theorem Rel.clo_inv {f : Nat} {cs : List AV} (h : Rel E (.clo f cs) y) : ∃ ds, y = .func (.func f) #[] ds ∧ cs.length = ds.size ∧ (∀ (i : Nat) x y, cs[i]? = some x → ds[i]? = some y → Rel E x y) := by
  cases h with
  | clo _ _ ds h1 h2 => exact ⟨ds, rfl, h1, h2⟩
  | agg _ _ _ h => cases h
theorem Rel.mp_inv {b : Nat} (h : Rel E (.mp b) y) : ∃ l, E b = some (l, 0) ∧ y = .map (some l) := by
  cases h with
  | mp _ l h => exact ⟨l, h, rfl⟩
  | agg _ _ _ h => cases h
theorem AV.one_of_parts {a : AV} {cs : List AV} (h : a.parts = some cs) : a.one = false := by
  cases a <;> first | rfl | cases h
theorem Rel.err_inv {t e : Nat} {o : Nat × Nat} (h : Rel E (.err t e o) y) : (e = 0 ∧ y = .nilIface) ∨ ∃ n s, e = n + 1 ∧ n < 99 ∧ E (401 + n) = some (o.1, s) ∧ y = .iface t (.pointer (some ⟨o.1, o.2, none⟩)) := by
  cases h with
  | err0 => exact .inl ⟨rfl, rfl⟩
  | errS _ n _ s h0 h => exact .inr ⟨n, s, rfl, h0, h, rfl⟩
  | agg _ _ _ h => cases h
theorem Rel.one {x : AV} (h : Rel E x y) (hx : x.one = true) : y.oneCell' = true := by
  cases h with
  | agg a cs ds h => rw [AV.one_of_parts h] at hx; cases hx
  | tup => cases hx
  | val => exact hx
  | hole => cases hx
  | _ => rfl
end

/-- A block as the walk knows it: its first cells, its elements' type, whether it may be written. -/
structure ABlk where
  c : AV
  elem : TypeId
  own : Bool
abbrev Hp := Nat → Option ABlk
def lk {α : Type} : List (Nat × α) → Nat → Option α
  | [], _ => none
  | (k, v) :: r, n => match Nat.beq k n with
    | true => some v
    | false => lk r n
/-- A heap with some names given anew. -/
def upd (U : List (Nat × Option ABlk)) (H : Hp) : Hp := fun b => match lk U b with
  | some r => r
  | none => H b
def hget (L : List (Nat × Option ABlk)) : Hp := upd L fun _ => none
theorem upd_nil (H : Hp) : upd [] H = H := rfl
theorem lk_append {α : Type} (U V : List (Nat × α)) (b : Nat) : lk (U ++ V) b = (lk U b).or (lk V b) := by
  induction U with
  | nil => rfl
  | cons x U ih =>
    obtain ⟨k, v⟩ := x
    simp only [List.cons_append, lk]
    cases Nat.beq k b <;> simp [ih]
theorem upd_hget (U L : List (Nat × Option ABlk)) : upd U (hget L) = hget (U ++ L) := by
  funext b
  simp only [hget, upd, lk_append]
  cases lk U b <;> rfl

/-- A mark in the place of an element type: a block of whatever type, no cell of which is a string's. -/
def errT : TypeId := 1000000
/-- An element type with a mark: the cells that are known are bytes of a string's. -/
def frz : TypeId := 2000000
/-- A mark in the place of an element type: a block of which neither the type nor the marked cells are known. -/
def anyT : TypeId := 4000000
structure FzOk (k : ABlk) (fz : Nat × Nat) (s : Nat) : Prop where
  w : k.own = true → ∀ i, i < s → ¬ (fz.1 ≤ i ∧ i < fz.2)
  z : k.elem = errT → fz = (0, 0)
  f : k.own = false → frz ≤ k.elem → k.elem < anyT → fz.1 = 0 ∧ k.c.list.length ≤ fz.2
def TyOk (k : ABlk) (t : TypeId) : Prop := k.elem = errT ∨ (t = k.elem ∧ (k.own = true ∨ k.elem < frz)) ∨ k.elem = frz + t ∨ k.elem = anyT
theorem TyOk.is {k : ABlk} {t : TypeId} (h : TyOk k t) (h1 : k.elem ≠ errT) (h2 : k.elem < frz) : t = k.elem := by
  rcases h with h | ⟨h, _⟩ | h | h
  · exact absurd h h1
  · exact h
  · exact absurd h2 (Nat.not_lt.2 (by rw [h]; exact Nat.le_add_right _ _))
  · exact absurd h2 (Nat.not_lt.2 (by rw [h]; decide))
theorem FzOk.zero (k : ABlk) (s : Nat) (ho : k.own = true := by rfl) : FzOk k (0, 0) s := ⟨fun _ i _ h => by have := h.2; simp at this, fun _ => rfl, fun h => by rw [ho] at h; cases h⟩
/-- What a block may be taken for, of what it is. -/
def ElemLe (k k2 : ABlk) : Prop := (k.elem, k.own && Nat.ble frz k.elem) = (k2.elem, k2.own && Nat.ble frz k2.elem)
theorem ElemLe.elem {k k2 : ABlk} (h : ElemLe k k2) : k.elem = k2.elem := congrArg Prod.fst h
theorem ElemLe.lose {k k2 : ABlk} (h : ElemLe k k2) (h1 : k.own = true) (h2 : k2.own = false) : k.elem < frz := by
  have := congrArg Prod.snd h
  simp only [h1, h2, Bool.true_and, Bool.false_and] at this
  rcases Nat.lt_or_ge k.elem frz with h | h
  · exact h
  · rw [Nat.ble_eq_true_of_le h] at this; cases this
def BAt (E : Emb) (k : ABlk) (w : World) (l s : Nat) : Prop :=
  ∃ arr t fz, w.heap[l]? = some (.cells arr t fz) ∧ arr.size = s ∧ (FzOk k fz s ∧ TyOk k t) ∧ k.c.list.length ≤ s ∧ ∀ (i : Nat) x, k.c.list[i]? = some x → x.cell = true ∧ ∃ y, arr[i]? = some y ∧ Rel E x y
/-- What a named map holds: its keys and its elements, in the order of its entries, and when they came. -/
def MAt (E : Emb) (ks : List Value) (vs : List AV) (bs : List Nat) (clk : Nat) (w : World) (l : Nat) : Prop :=
  ∃ es, w.heap[l]? = some (.map es clk) ∧ es.size = ks.length ∧ vs.length = ks.length ∧ bs.length = ks.length ∧
    ∀ (i : Nat) e, es[i]? = some e → bs[i]? = some e.born ∧ ks[i]? = some e.key ∧ ∃ x, vs[i]? = some x ∧ Rel E x e.val
theorem MAt.mono {E E' : Emb} {ks : List Value} {vs : List AV} {bs : List Nat} {clk : Nat} {w w' : World} {l : Nat} (h : MAt E ks vs bs clk w l) (hE : E.le E') (hw : w'.heap[l]? = w.heap[l]?) : MAt E' ks vs bs clk w' l := by
  obtain ⟨es, h1, h2, h3, h4, h5⟩ := h
  exact ⟨es, hw.trans h1, h2, h3, h4, fun i e he => ⟨(h5 i e he).1, (h5 i e he).2.1, (h5 i e he).2.2.imp fun _ q => ⟨q.1, q.2.mono hE⟩⟩⟩
/-- A range over a named map. -/
def IAt (E : Emb) (b since : Nat) (seen : List Nat) (last : Nat) (w : World) (l : Nat) : Prop :=
  ∃ lm, E b = some (lm, 0) ∧ w.heap[l]? = some (.mapIter (some lm) since seen.toArray last)
theorem lt_of_heap {w : World} {l : Nat} {o : Obj} (h1 : w.heap[l]? = some o) : l < w.heap.size := by
  rcases Nat.lt_or_ge l w.heap.size with hlt | hge
  · exact hlt
  · rw [Array.getElem?_eq_none hge] at h1; cases h1
/-- What a named block is: a map, a range over one, or cells. -/
inductive KAt (E : Emb) (k : ABlk) (w : World) (l s : Nat) : Prop
  | map (ks : List Value) (vs : List AV) (bs : List Nat) (clk : Nat) : k.c.ents = some (ks, vs, bs, clk) → s = 0 → MAt E ks vs bs clk w l → KAt E k w l s
  | iter (b since : Nat) (seen : List Nat) (last : Nat) : k.c = .iter b since seen last → s = 0 → IAt E b since seen last w l → KAt E k w l s
  | row : k.c.isMap = false → BAt E k w l s → KAt E k w l s
theorem AV.not_ents {c : AV} (h : c.isMap = false) : c.ents = none := by cases c <;> first | rfl | cases h
theorem KAt.real {E : Emb} {k : ABlk} {w : World} {l s : Nat} (h : KAt E k w l s) (hr : k.c.isMap = false) : BAt E k w l s := by
  cases h with
  | map ks vs bs clk h => rw [AV.not_ents hr] at h; cases h
  | iter b si se la h => rw [h] at hr; cases hr
  | row _ h => exact h
theorem KAt.isMap {E : Emb} {k : ABlk} {w : World} {l s : Nat} {ks : List Value} {vs : List AV} {bs : List Nat} {clk : Nat} (h : KAt E k w l s) (hr : k.c.ents = some (ks, vs, bs, clk)) : s = 0 ∧ MAt E ks vs bs clk w l := by
  cases h with
  | map ks vs bs clk h h1 h2 => rw [hr] at h; injection h with h; injection h with e1 h; injection h with e2 h; injection h with e3 e4; subst e1; subst e2; subst e3; subst e4; exact ⟨h1, h2⟩
  | iter b si se la h => rw [h] at hr; cases hr
  | row h _ => rw [AV.not_ents h] at hr; cases hr
theorem KAt.isIter {E : Emb} {k : ABlk} {w : World} {l s b since : Nat} {seen : List Nat} {last : Nat} (h : KAt E k w l s) (hr : k.c = .iter b since seen last) : s = 0 ∧ IAt E b since seen last w l := by
  cases h with
  | map ks vs bs clk h => rw [hr] at h; cases h
  | iter b' si se la h h1 h2 => rw [hr] at h; injection h with e1 e2 e3 e4; subst e1; subst e2; subst e3; subst e4; exact ⟨h1, h2⟩
  | row h _ => rw [hr] at h; cases h
theorem AV.map_list {c : AV} {i : Nat} {x : AV} (h : c.list[i]? = some x) : c.isMap = false := by
  cases c <;> first | rfl | (simp [AV.list, AV.parts] at h)
theorem AV.map_parts {c : AV} {cs : List AV} (h : c.parts = some cs) : c.isMap = false := by
  cases c <;> first | rfl | cases h
/-- What lies still at a place. -/
def DAt (w : World) (a : Nat) (L : Nat → Option Value) (s : Nat) : Prop :=
  ∃ arr t fz, w.heap[a]? = some (.cells arr t fz) ∧ arr.size = s ∧ ∀ (i : Nat) v, L i = some v → arr[i]? = some v
theorem DAt.mono {w w' : World} {a : Nat} {L : Nat → Option Value} {s : Nat} (h : DAt w a L s) (hw : w'.heap[a]? = w.heap[a]?) : DAt w' a L s := by
  obtain ⟨arr, t, fz, h1, h2, h3⟩ := h
  exact ⟨arr, t, fz, hw.trans h1, h2, h3⟩
theorem DAt.lt {w : World} {a : Nat} {L : Nat → Option Value} {s : Nat} (h : DAt w a L s) : a < w.heap.size := by
  obtain ⟨arr, tq, fz, h1, _⟩ := h
  rcases Nat.lt_or_ge a w.heap.size with hlt | hge
  · exact hlt
  · rw [Array.getElem?_eq_none hge] at h1; cases h1
structure RH (E : Emb) (S : Nat → Prop) (H : Hp) (w : World) : Prop where
  blk : ∀ b k, H b = some k → ∃ l s, E b = some (l, s) ∧ KAt E k w l s
  inj : ∀ b b' k k' l s s', H b = some k → H b' = some k' → k.own = true → E b = some (l, s) → E b' = some (l, s') → b = b'
  own : ∀ b k l s, H b = some k → k.own = true → E b = some (l, s) → S l
  deep : ∀ a L s, E.d a = some (L, s) → DAt w a L s ∧ ∀ b k s', H b = some k → k.own = true → E b ≠ some (a, s')
/-- Outside S the world is as it was. -/
structure Fr (S : Nat → Prop) (w w' : World) : Prop where
  os : w'.os = w.os
  tape : w'.tape = w.tape
  output : w'.output = w.output
  size : w.heap.size ≤ w'.heap.size
  block : ∀ k, k < w.heap.size → ¬ S k → w'.heap[k]? = w.heap[k]?
  dr : DrOk w w'
theorem Fr.refl (S : Nat → Prop) (w : World) : Fr S w w := ⟨rfl, rfl, rfl, Nat.le_refl _, fun _ _ _ => rfl, .refl _⟩
theorem Fr.trans {S : Nat → Prop} {a b c : World} (h : Fr S a b) (k : Fr S b c) : Fr S a c :=
  ⟨k.os.trans h.os, k.tape.trans h.tape, k.output.trans h.output, Nat.le_trans h.size k.size, fun i hi hs => (k.block i (Nat.lt_of_lt_of_le hi h.size) hs).trans (h.block i hi hs), h.dr.trans k.dr⟩
theorem Fr.mono {S S' : Nat → Prop} {w w' : World} (h : Fr S w w') (hs : ∀ k, k < w.heap.size → S k → S' k) : Fr S' w w' :=
  ⟨h.os, h.tape, h.output, h.size, fun k hk hn => h.block k hk (fun x => hn (hs k hk x)), h.dr⟩
theorem Fr.drew {S : Nat → Prop} {a w : World} (h : Fr S a w) : Fr S a w.drew := ⟨h.os, h.tape, h.output, h.size, h.block, h.dr.drew⟩
theorem Fr.alloc (S : Nat → Prop) (w : World) (o : Obj) : Fr S w (w.alloc o) :=
  ⟨rfl, rfl, rfl, by simp, fun k hk _ => heap_alloc_old w o k hk, .same rfl⟩
theorem Fr.setRow {S : Nat → Prop} (w : World) (g : Nat) (cs : Array Value) (hg : S g) : Fr S w (w.setRow g cs) :=
  ⟨rfl, rfl, rfl, by simp [World.setRow], fun k _ hn => setRow_other w g k cs (fun e => hn (by rw [e]; exact hg)), .same rfl⟩
theorem Fr.below {n0 : Nat} {w w' : World} (h : Fr (fun k => n0 ≤ k) w w') : Below n0 w w' ∨ w.heap.size < n0 := by
  rcases Nat.lt_or_ge w.heap.size n0 with hl | hl
  · exact .inr hl
  · exact .inl ⟨h.os, h.tape, h.output, h.size, fun k hk => h.block k (by omega) (by omega)⟩

theorem BAt.mono {E E' : Emb} {k : ABlk} {w w' : World} {l s : Nat} (h : BAt E k w l s) (hE : E.le E') (hw : w'.heap[l]? = w.heap[l]?) : BAt E' k w' l s := by
  obtain ⟨arr, tq, fz, h1, h2, h3, h4, h5⟩ := h
  refine ⟨arr, tq, fz, hw.trans h1, h2, h3, h4, fun i x hx => ?_⟩
  obtain ⟨h6, y, h7, h8⟩ := h5 i x hx
  exact ⟨h6, y, h7, h8.mono hE⟩
theorem BAt.lt {E : Emb} {k : ABlk} {w : World} {l s : Nat} (h : BAt E k w l s) : l < w.heap.size := by
  obtain ⟨arr, tq, fz, h1, _⟩ := h
  rcases Nat.lt_or_ge l w.heap.size with hlt | hge
  · exact hlt
  · rw [Array.getElem?_eq_none hge] at h1; cases h1
theorem KAt.mono {E E' : Emb} {k : ABlk} {w w' : World} {l s : Nat} (h : KAt E k w l s) (hE : E.le E') (hw : w'.heap[l]? = w.heap[l]?) : KAt E' k w' l s := by
  cases h with
  | map ks vs bs clk h1 h2 h3 => exact .map ks vs bs clk h1 h2 (h3.mono hE hw)
  | iter b si se la h1 h2 h3 => obtain ⟨lm, g1, g2⟩ := h3; exact .iter b si se la h1 h2 ⟨lm, hE.1 _ _ g1, hw.trans g2⟩
  | row h1 h2 => exact .row h1 (h2.mono hE hw)
theorem KAt.lt {E : Emb} {k : ABlk} {w : World} {l s : Nat} (h : KAt E k w l s) : l < w.heap.size := by
  cases h with
  | map ks vs bs clk _ _ h3 => obtain ⟨es, h1, _⟩ := h3; exact lt_of_heap h1
  | iter b si se la _ _ h3 => obtain ⟨lm, _, g2⟩ := h3; exact lt_of_heap g2
  | row _ h2 => exact h2.lt
theorem KAt.cells {E : Emb} {k : ABlk} {w : World} {l s : Nat} {arr : Array Value} {t : TypeId} {fz : Nat × Nat} (h : KAt E k w l s) (hg : w.heap[l]? = some (.cells arr t fz)) : k.c.isMap = false ∧ BAt E k w l s := by
  cases h with
  | map ks vs bs clk _ _ h3 => obtain ⟨es, h1, _⟩ := h3; rw [hg] at h1; injection h1 with h1; cases h1
  | iter b si se la _ _ h3 => obtain ⟨lm, _, h1⟩ := h3; rw [hg] at h1; injection h1 with h1; cases h1
  | row h1 h2 => exact ⟨h1, h2⟩
/-- A row without holes: every cell is one. -/
theorem cell_one {a : AV} (h : a.rowWhole = true) {i : Nat} {x : AV} (hx : a.list[i]? = some x) (hc : x.cell = true) : x.one = true := by
  cases a with
  | agg cs => exact List.all_eq_true.1 h x (List.mem_of_getElem? hx)
  | aggB l => simp only [AV.list, AV.parts, Option.getD_some, List.getElem?_map, Option.map_eq_some_iff] at hx; obtain ⟨_, _, rfl⟩ := hx; rfl
  | agg32 l => simp only [AV.list, AV.parts, Option.getD_some, List.getElem?_map, Option.map_eq_some_iff] at hx; obtain ⟨_, _, rfl⟩ := hx; rfl
  | agg64 l => simp only [AV.list, AV.parts, Option.getD_some, List.getElem?_map, Option.map_eq_some_iff] at hx; obtain ⟨_, _, rfl⟩ := hx; rfl
  | aggI l => simp only [AV.list, AV.parts, Option.getD_some, List.getElem?_map, Option.map_eq_some_iff] at hx; obtain ⟨_, _, rfl⟩ := hx; rfl
  | aggS l => simp only [AV.list, AV.parts, Option.getD_some, List.getElem?_map, Option.map_eq_some_iff] at hx; obtain ⟨_, _, rfl⟩ := hx; rfl
  | aggT l => simp only [AV.list, AV.parts, Option.getD_some, List.getElem?_map, Option.map_eq_some_iff] at hx; obtain ⟨_, _, rfl⟩ := hx; rfl
  | aggD l => simp only [AV.list, AV.parts, Option.getD_some, List.getElem?_map, Option.map_eq_some_iff] at hx; obtain ⟨_, _, rfl⟩ := hx; rfl
  | _ => simp [AV.list, AV.parts] at hx
theorem BAt.cell {E : Emb} {k : ABlk} {w : World} {l s : Nat} (h : BAt E k w l s) {i : Nat} {x : AV} (hx : k.c.list[i]? = some x) : x.cell = true ∧ ∃ y, w.cell? ⟨l, i, none⟩ = some y ∧ Rel E x y := by
  obtain ⟨arr, tq, fz, h1, _, _, _, h5⟩ := h
  obtain ⟨h6, y, h7, h8⟩ := h5 i x hx
  exact ⟨h6, y, (cell_of_row w l i arr tq fz h1).trans h7, h8⟩
/-- Nothing that is known has turned: more names, more blocks. -/
theorem RH.same {E : Emb} {S : Nat → Prop} {H : Hp} {w w' : World} (h : RH E S H w) (hw : ∀ l, l < w.heap.size → w'.heap[l]? = w.heap[l]?) : RH E S H w' := by
  refine ⟨fun b k hk => ?_, h.inj, h.own, fun a L s ha => ⟨(h.deep a L s ha).1.mono (hw a (h.deep a L s ha).1.lt), (h.deep a L s ha).2⟩⟩
  obtain ⟨l, s, h1, h2⟩ := h.blk b k hk
  exact ⟨l, s, h1, h2.mono (Emb.le_refl _) (hw l h2.lt)⟩
theorem RH.blkR {E : Emb} {S : Nat → Prop} {H : Hp} {w : World} (h : RH E S H w) {b : Nat} {k : ABlk} (hk : H b = some k) (hr : k.c.isMap = false) : ∃ l s, E b = some (l, s) ∧ BAt E k w l s := by
  obtain ⟨l, s, h1, h2⟩ := h.blk b k hk
  exact ⟨l, s, h1, h2.real hr⟩
theorem RH.drew {E : Emb} {S : Nat → Prop} {H : Hp} {w : World} (h : RH E S H w) : RH E S H w.drew := h.same fun _ _ => rfl
/-- Less is known. -/
theorem RH.less {E : Emb} {S : Nat → Prop} {H H' : Hp} {w : World} (h : RH E S H w) (hH : ∀ b k, H' b = some k → H b = some k) : RH E S H' w :=
  ⟨fun b k hk => h.blk b k (hH b k hk), fun b b' k k' l s s' h1 h2 => h.inj b b' k k' l s s' (hH _ _ h1) (hH _ _ h2), fun b k l s h1 => h.own b k l s (hH _ _ h1), fun a L s ha => ⟨(h.deep a L s ha).1, fun b k s' h1 => (h.deep a L s ha).2 b k s' (hH _ _ h1)⟩⟩
def Emb.put (E : Emb) (b : Nat) (p : Nat × Nat) : Emb := ⟨fun n => if n = b then some p else E n, E.d⟩
theorem Emb.put_le {E : Emb} {b : Nat} {p : Nat × Nat} (h : E b = none) : E.le (E.put b p) := by
  refine ⟨fun n q hq => ?_, fun _ _ h => h⟩
  show (if n = b then some p else E n) = some q
  split
  · rename_i e; subst e; rw [h] at hq; cases hq
  · exact hq
theorem Emb.put_same (E : Emb) (b : Nat) (p : Nat × Nat) : E.put b p b = some p := by simp [Emb.put]
theorem Emb.put_other (E : Emb) {b n : Nat} (p : Nat × Nat) (h : n ≠ b) : E.put b p n = E n := by simp [Emb.put, h]
theorem upd_one (b : Nat) (k : Option ABlk) (H : Hp) (n : Nat) : upd [(b, k)] H n = if n = b then k else H n := by
  simp only [upd, lk]
  by_cases h : n = b
  · subst h; simp
  · rw [if_neg h]
    have : Nat.beq b n = false := by
      cases hb : Nat.beq b n with
      | false => rfl
      | true => exact absurd (Nat.eq_of_beq_eq_true hb).symm h
    simp [this]
/-- A new block under a new name. -/
theorem RH.allocC {E : Emb} {S : Nat → Prop} {H : Hp} {w : World} (h : RH E S H w) (hS : S w.heap.size) {b : Nat} (hb : E b = none) (k : ABlk) (arr : Array Value) (fz : Nat × Nat)
    (hfz : FzOk k fz arr.size) (hl : k.c.list.length ≤ arr.size) (hc : ∀ (i : Nat) x, k.c.list[i]? = some x → x.cell = true ∧ ∃ y, arr[i]? = some y ∧ Rel E x y) (ho : k.own = true) (hm : k.c.isMap = false := by first | rfl | assumption | exact AV.map_parts (by assumption)) :
    RH (E.put b (w.heap.size, arr.size)) S (upd [(b, some k)] H) (w.alloc (.cells arr k.elem fz)) := by
  have hle := Emb.put_le (E := E) (b := b) (p := (w.heap.size, arr.size)) hb
  have old : ∀ n k', H n = some k' → n ≠ b := fun n k' hk e => by
    subst e; obtain ⟨l, s, h1, _⟩ := h.blk n k' hk; rw [hb] at h1; cases h1
  have lt : ∀ n k' l s, H n = some k' → E n = some (l, s) → l < w.heap.size := fun n k' l s hk he => by
    obtain ⟨l', s', h1, h2⟩ := h.blk n k' hk
    rw [he] at h1; injection h1 with h1; injection h1 with h1 _; rw [h1]; exact h2.lt
  refine ⟨fun n k' hk => ?_, fun n n' k1 k2 l s s' h1 h2 h3 h4 h5 => ?_, fun n k' l s h1 h2 h3 => ?_, fun a L s ha => ?_⟩
  rotate_right 1
  · have hd := h.deep a L s ha
    refine ⟨hd.1.mono (heap_alloc_old w _ a hd.1.lt), fun n k' s' hk ho' he => ?_⟩
    rw [upd_one] at hk
    split at hk
    · rename_i e; subst e
      rw [Emb.put_same] at he; injection he with he; injection he with he _
      have := hd.1.lt
      omega
    · rename_i e
      rw [Emb.put_other _ _ e] at he
      exact hd.2 n k' s' hk ho' he
  · rw [upd_one] at hk
    split at hk
    · rename_i e; subst e; injection hk with hk; subst hk
      exact ⟨w.heap.size, arr.size, Emb.put_same _ _ _, .row hm ⟨arr, k.elem, fz, heap_alloc_new w _, rfl, ⟨hfz, .inr (.inl ⟨rfl, .inl ho⟩)⟩, hl, fun i x hx => ⟨(hc i x hx).1, (hc i x hx).2.imp fun y hy => ⟨hy.1, hy.2.mono hle⟩⟩⟩⟩
    · obtain ⟨l, s, h1, h2⟩ := h.blk n k' hk
      exact ⟨l, s, hle.1 _ _ h1, h2.mono hle (heap_alloc_old w _ l h2.lt)⟩
  · rw [upd_one] at h1 h2
    by_cases e1 : n = b
    · by_cases e2 : n' = b
      · rw [e1, e2]
      · rw [if_neg e2] at h2
        rw [Emb.put_other _ _ e2] at h5
        subst e1
        rw [Emb.put_same] at h4; injection h4 with h4; injection h4 with h4 _
        have := lt n' k2 _ _ h2 h5
        omega
    · rw [if_neg e1] at h1
      rw [Emb.put_other _ _ e1] at h4
      by_cases e2 : n' = b
      · subst e2
        rw [Emb.put_same] at h5; injection h5 with h5; injection h5 with h5 _
        have := lt n k1 _ _ h1 h4
        omega
      · rw [if_neg e2] at h2
        rw [Emb.put_other _ _ e2] at h5
        exact h.inj n n' k1 k2 l s s' h1 h2 h3 h4 h5
  · rw [upd_one] at h1
    by_cases e1 : n = b
    · subst e1
      rw [Emb.put_same] at h3; injection h3 with h3; injection h3 with h3 _
      rw [← h3]; exact hS
    · rw [if_neg e1] at h1
      rw [Emb.put_other _ _ e1] at h3
      exact h.own n k' l s h1 h2 h3
theorem RH.alloc {E : Emb} {S : Nat → Prop} {H : Hp} {w : World} (h : RH E S H w) (hS : S w.heap.size) {b : Nat} (hb : E b = none) (k : ABlk) (arr : Array Value) (fz : Nat × Nat)
    (hfz : FzOk k fz arr.size) (hl : k.c.list.length ≤ arr.size) (hc : ∀ (i : Nat) x, k.c.list[i]? = some x → x.one = true ∧ ∃ y, arr[i]? = some y ∧ Rel E x y) (ho : k.own = true) (hm : k.c.isMap = false := by first | rfl | assumption | exact AV.map_parts (by assumption)) :
    RH (E.put b (w.heap.size, arr.size)) S (upd [(b, some k)] H) (w.alloc (.cells arr k.elem fz)) :=
  h.allocC hS hb k arr fz hfz hl (fun i x hx => ⟨AV.cell_of (hc i x hx).1, (hc i x hx).2⟩) ho hm
/-- The cells of one of the call's own blocks are written: the name has them. -/
theorem RH.write {E : Emb} {S : Nat → Prop} {H : Hp} {w : World} (h : RH E S H w) {b l s : Nat} {k : ABlk} (hk : H b = some k) (ho : k.own = true) (he : E b = some (l, s))
    (arr arr' : Array Value) (tq : TypeId) (fz : Nat × Nat) (hg : w.heap[l]? = some (.cells arr tq fz)) (hsz : arr'.size = arr.size) (c' : AV) (hl : c'.list.length ≤ arr'.size)
    (hc : ∀ (i : Nat) x, c'.list[i]? = some x → x.cell = true ∧ ∃ y, arr'[i]? = some y ∧ Rel E x y) (hm : c'.isMap = false := by first | rfl | assumption | exact AV.map_parts (by assumption)) :
    RH E S (upd [(b, some { k with c := c' })] H) (w.setRow l arr') := by
  obtain ⟨l', s', h1, hkat⟩ := h.blk b k hk
  rw [he] at h1; injection h1 with h1; injection h1 with e1 e2; subst e1; subst e2
  obtain ⟨hreal, arr0, tq0, fz0, h2, h3, h4, h5, h6⟩ := hkat.cells hg
  rw [hg] at h2; injection h2 with h2; injection h2 with e1 e3 e2; subst e1; subst e2; subst e3
  refine ⟨fun n k' hn => ?_, fun n n' k1 k2 l1 s1 s1' g1 g2 g3 g4 g5 => ?_, fun n k' l1 s1 g1 g2 g3 => ?_, fun a L s1 ha => ?_⟩
  rotate_right 1
  · have hd := h.deep a L s1 ha
    have hne : l ≠ a := fun e => hd.2 b k s hk ho (by rw [he, e])
    refine ⟨hd.1.mono (setRow_other w l a arr' hne.symm), fun n k' s' hn ho' => ?_⟩
    rw [upd_one] at hn
    split at hn
    · rename_i e; subst e; exact hd.2 n k s' hk ho
    · exact hd.2 n k' s' hn ho'
  · rw [upd_one] at hn
    split at hn
    · rename_i e; subst e; injection hn with hn; subst hn
      exact ⟨l, s, he, .row hm ⟨arr', tq, fz, setRow_heap w l arr arr' tq fz hg, by omega, ⟨⟨h4.1.w, h4.1.z, fun h => by rw [show _ = false from h] at ho; cases ho⟩, h4.2⟩, by show c'.list.length ≤ s; omega, hc⟩⟩
    · rename_i e
      obtain ⟨l1, s1, g1, g2⟩ := h.blk n k' hn
      refine ⟨l1, s1, g1, g2.mono (Emb.le_refl _) (setRow_other w l l1 arr' (fun el => ?_))⟩
      subst el
      exact e (h.inj b n k k' l1 s s1 hk hn ho he g1).symm
  · have q : ∀ n k', upd [(b, some { k with c := c' })] H n = some k' → ∃ k0, H n = some k0 ∧ k0.own = k'.own := fun n k' hn => by
      rw [upd_one] at hn
      split at hn
      · rename_i e; subst e; injection hn with hn; subst hn; exact ⟨k, hk, rfl⟩
      · exact ⟨k', hn, rfl⟩
    obtain ⟨k0, q1, q2⟩ := q _ _ g1
    obtain ⟨k0', q1', _⟩ := q _ _ g2
    exact h.inj n n' k0 k0' l1 s1 s1' q1 q1' (q2.trans g3) g4 g5
  · rw [upd_one] at g1
    split at g1
    · rename_i e; subst e
      rw [he] at g3; injection g3 with g3; injection g3 with g3 _; subst g3
      exact h.own n k l s hk ho he
    · exact h.own n k' l1 s1 g1 g2 g3
end Go.Proofs.YtdpdmgbdipokdaaDoor
