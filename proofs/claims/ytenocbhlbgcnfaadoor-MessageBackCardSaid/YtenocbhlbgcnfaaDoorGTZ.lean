/-
  Texts of this claim.
-/
import Derived.Stop.LaidErr
import Derived.Deep.SlicePairs
import Derived.ChangeSlices
import Derived.Test.YtenocbhlbgcnfaaDoorGTC
import Derived.Test.YtenocbhlbgcnfaaDoorGTE
import Derived.Test.YtenocbhlbgcnfaaDoorGTS
import Derived.Test.YtenocbhlbgcnfaaDoorGTI
import Derived.Test.YtenocbhlbgcnfaaDoorGTJ
import Derived.Test.YtenocbhlbgcnfaaDoorGTL
namespace Go.Proofs.YtenocbhlbgcnfaaDoor
open Go.ChangeShapes Go.WideShapes Go.ChangeAt Go.RowKit
/-- A sentinel's variable g holds a pointer to the cell at a, which holds its text. -/
structure SentAt (W : World) (g : Nat) (a : Nat × Nat) (text : List UInt8) : Prop where
  var : ∃ arr t, W.heap[g]? = some (.cells arr t (0, 0)) ∧ arr[0]? = some (.iface 131 (.pointer (some ⟨a.1, a.2, none⟩)))
  blk : ∃ arr t, W.heap[a.1]? = some (.cells arr t (0, 0))
  txt : ∃ s, W.cell? ⟨a.1, a.2, none⟩ = some (.string s) ∧ s.data.toList = text
theorem star_err : "*" ++ "errors.errorString" = "*errors.errorString" := by decide
theorem ty_err (u : TypeId) (h : Tryd.prog.typeName? 3 u = some "*errors.errorString") : u = 131 :=
  typeName_ptr_named (nm := "errors.errorString") (by rw [star_err]; kernel_rfl) (by kernel_rfl) (by decide) u (by rw [star_err]; exact h)
theorem laid_err_gen {P : Program} {n nm : String} {text : List UInt8} {r : List (String × DataW Unit)} {W : World} {g : Nat} {ti tp te ts : TypeId} {ms : Array (String × TypeId)} {f : Field} (h : laidMet P ((n, .iface nm (.ptr (.agg [.lit (.string text)]))) :: r) W)
    (hg : P.globalNamed n = some g) (ht : (P.globals[g]?).map (·.type) = some ti) (hi : P.underlying ti = some (.interface ms)) (hrow : ∀ u, P.typeName? 3 u = some nm → u = tp)
    (hp : P.underlying tp = some (.pointer te)) (he : P.underlying te = some (.struct #[f])) (hft : f.type = ts) (hfo : f.offset = 0) (hs : P.underlying ts = some .string) (hc : P.cellsOf te = 1) (hcs : P.cellsOf ts = 1) :
    ∃ a : Nat × Nat, (∃ arr t, W.heap[g]? = some (.cells arr t (0, 0)) ∧ arr[0]? = some (.iface tp (.pointer (some ⟨a.1, a.2, none⟩)))) ∧ (∃ arr t, W.heap[a.1]? = some (.cells arr t (0, 0))) ∧ ∃ s, W.cell? ⟨a.1, a.2, none⟩ = some (.string s) ∧ s.data.toList = text := by
  obtain ⟨ps, ⟨g0, t0, cs0, f0, p0, q0, hg0, ht0, hv0, hd0, _, e0⟩, _, hrows⟩ := h
  obtain rfl := Option.some.inj (hg.symm.trans hg0)
  obtain rfl := Option.some.inj (ht.symm.trans ht0)
  subst e0
  obtain ⟨l0⟩ := cs0
  have ok0 : ∀ u v, l0 = [.iface u v] → Value.okWide P W .any 0 u v := fun u v e => by
    subst e
    exact (hrows g 0 (by simp [MemPlace.row])).2 u v (by simpa using World.var?_cell hg0 hv0 0)
  obtain ⟨a0, s0, rfl, hc0, hs0, hz0, rfl⟩ := errorString_of_trod hi hrow hp he hft hfo hs hc hcs hd0 ok0
  obtain ⟨l, o, sp⟩ := a0
  have hsp : sp = none := by
    cases sp with
    | none => rfl
    | some b =>
      unfold World.cell? at hc0
      split at hc0 <;> simp at hc0
  subst hsp
  obtain ⟨⟨c, t, hb⟩, _⟩ := hrows g 0 (by simp [MemPlace.row])
  obtain ⟨⟨c1, t1, hb1⟩, _⟩ := hrows l o (by simp [MemPlace.row])
  refine ⟨(l, o), ⟨c, t, hb, ?_⟩, ⟨c1, t1, hb1⟩, ⟨s0, hc0, hs0⟩⟩
  have := World.var?_cell hg0 hv0 0
  rw [cell_of_row W g 0 c t (0, 0) hb] at this
  simpa using this
theorem laid_err {n : String} {text : List UInt8} {r : List (String × DataW Unit)} {W : World} {g : Nat} (h : laidMet Tryd.prog ((n, .iface "*errors.errorString" (.ptr (.agg [.lit (.string text)]))) :: r) W)
    (hg : Tryd.prog.globalNamed n = some g) (ht : (Tryd.prog.globals[g]?).map (·.type) = some 33) : ∃ a, SentAt W g a text :=
  (laid_err_gen h hg ht Tryd.underlying33 ty_err Tryd.underlying131 Tryd.underlying153 rfl rfl Tryd.underlying9 (by kernel_rfl) (by kernel_rfl)).imp fun _ h => ⟨h.1, h.2.1, h.2.2⟩
theorem size_at {W : World} {b : Nat} {arr : Array Value} {t : TypeId} {fz : Nat × Nat} (h : W.heap[b]? = some (.cells arr t fz)) : sizeAt W b = arr.size := by simp [sizeAt, h]
/-- The names of sentinels, and the variables by their numbers. -/
def errE (W : World) (eo : Nat → Nat × Nat) : Emb := ⟨fun b => if b < 400 then some (b, sizeAt W b) else if b < 401 then none else if b < 450 then some ((eo (b - 401)).1, sizeAt W (eo (b - 401)).1) else none, fun _ => none⟩
theorem errE_glob (W : World) (eo : Nat → Nat × Nat) : ∀ g, g < 400 → ∃ s, errE W eo g = some (g, s) := fun g hg => ⟨sizeAt W g, by simp [errE, hg]⟩
theorem errE_top (W : World) (eo : Nat → Nat × Nat) : ∀ b, 1000 ≤ b → errE W eo b = none := fun b hb => by simp only [errE]; rw [if_neg (by omega), if_neg (by omega), if_neg (by omega)]
theorem errE_err (W : World) (eo : Nat → Nat × Nat) (n : Nat) (h : n < 49) : errE W eo (401 + n) = some ((eo n).1, sizeAt W (eo n).1) := by
  simp only [errE]
  rw [if_neg (by omega), if_neg (by omega), if_pos (by omega)]
  simp
theorem bat_var {W : World} {g n : Nat} {text : List UInt8} {eo : Nat → Nat × Nat} (h : SentAt W g (eo n) text) (hn : n < 49) : BAt (errE W eo) ⟨.agg [.err 131 (n + 1) (eo n)], errT, false⟩ W g (sizeAt W g) := by
  obtain ⟨⟨arr, t, h1, h2⟩, _, _⟩ := h
  refine ⟨arr, t, (0, 0), h1, (size_at h1).symm, ⟨⟨fun h => (by cases h), fun _ => rfl, fun _ h => absurd h (show ¬ (2000000 : Nat) ≤ 1000000 by decide)⟩, .inl rfl⟩, ?_, fun i x hx => ?_⟩
  · have := (Array.getElem?_eq_some_iff.1 h2).1
    simp [AV.list, AV.parts, size_at h1]; omega
  · match i, hx with
    | 0, hx =>
      simp only [AV.list, AV.parts, Option.getD_some, List.getElem?_cons_zero, Option.some.injEq] at hx
      subst hx
      exact ⟨rfl, _, h2, .errS _ n _ _ (by omega) (errE_err W eo n hn)⟩
    | i + 1, hx => simp [AV.list, AV.parts] at hx
/-- What a variable's block is known by. -/
def known (W : World) (E : Emb) : List (Nat × Option ABlk) → Prop
  | [] => True
  | (_, none) :: r => known W E r
  | (b, some k) :: r => (k.own = false ∧ ∃ l s, E b = some (l, s) ∧ BAt E k W l s) ∧ known W E r
theorem known.spec {W : World} {E : Emb} : ∀ {l : List (Nat × Option ABlk)}, known W E l → ∀ b k, hget l b = some k → k.own = false ∧ ∃ q s, E b = some (q, s) ∧ BAt E k W q s := fun {l} h b k hk => by
  have hm := hget_mem hk
  clear hk
  induction l with
  | nil => cases hm
  | cons p l ih =>
    obtain ⟨c, q⟩ := p
    cases q with
    | none =>
      rcases List.mem_cons.1 hm with e | hm
      · injection e with _ e; cases e
      · exact ih h hm
    | some k' =>
      rcases List.mem_cons.1 hm with e | hm
      · injection e with e1 e2; injection e2 with e2; subst e1; subst e2; exact h.1
      · exact ih h.2 hm
theorem known_var {W : World} {g n : Nat} {text : List UInt8} {eo : Nat → Nat × Nat} (h : SentAt W g (eo n) text) (hn : n < 49) (hg : g < 400) : (⟨AV.agg [.err 131 (n + 1) (eo n)], errT, false⟩ : ABlk).own = false ∧ ∃ l s, errE W eo g = some (l, s) ∧ BAt (errE W eo) ⟨.agg [.err 131 (n + 1) (eo n)], errT, false⟩ W l s :=
  ⟨rfl, g, sizeAt W g, by simp [errE, hg], bat_var h hn⟩
end Go.Proofs.YtenocbhlbgcnfaaDoor
namespace Go.Proofs.YtenocbhlbgcnfaaDoor
open Go.ChangeShapes Go.WideShapes Go.ChangeAt Go.RowKit
/-- The names of sentinels, the variables by their numbers, and an argument's block. -/
def argE (W : World) (eo : Nat → Nat × Nat) (b : Nat) : Emb := (errE W eo).put 450 (b, sizeAt W b)
theorem known.mono {W : World} {E E' : Emb} (hE : E.le E') : ∀ {l : List (Nat × Option ABlk)}, known W E l → known W E' l
  | [], _ => trivial
  | (_, none) :: r, h => known.mono (l := r) hE h
  | (_, some _) :: r, h => by
    obtain ⟨⟨h1, q, s, h2, h3⟩, h4⟩ := h
    exact ⟨⟨h1, q, s, hE.1 _ _ h2, h3.mono hE rfl⟩, known.mono (l := r) hE h4⟩
section
variable {H : Type} {enc : TypeId × Value → H} {P : Program} {W : World} {eo : Nat → Nat × Nat}
end
end Go.Proofs.YtenocbhlbgcnfaaDoor
namespace Go.Proofs.YtenocbhlbgcnfaaDoor
open Go.ChangeShapes Go.WideShapes Go.ChangeAt Go.RowKit
section
variable {H : Type} {enc : TypeId × Value → H} {P : Program} {W : World} {eo : Nat → Nat × Nat}
end
end Go.Proofs.YtenocbhlbgcnfaaDoor
namespace Go.Proofs.YtenocbhlbgcnfaaDoor
open Go.ChangeShapes Go.WideShapes Go.ChangeAt Go.RowKit
/-- As before, and all of the world at the start lies still. -/
def argD (W : World) (eo : Nat → Nat × Nat) (b : Nat) : Emb := stillE W (argE W eo b).f
theorem still_at {W : World} {f : Nat → Option (Nat × Nat)} {a : Nat} {arr : Array Value} {t : TypeId} {fz : Nat × Nat} (h : W.heap[a]? = some (.cells arr t fz)) :
    (stillE W f).d a = some (fun i => arr[i]?, arr.size) := by
  simp only [stillE, h]
/-- A slice of strings in a cell: what it holds lies still. -/
theorem dsl_cell {H : Type} {enc : TypeId × Value → H} {P : Program} {W : World} {t e : TypeId} {w : Value} {fuel : Nat} {y : DataW H × List MemPlace} (ht : P.underlying t = some (.slice e)) (he : P.underlying e = some .string) (ce : P.cellsOf e = 1)
    (h : DataW.trod enc P W 0 (fun _ => true) true fuel t [w] = some y) :
    ∃ l : List (List UInt8), l.length ≤ maxLen ∧ (∀ j, (l.getD j []).length ≤ maxLen) ∧ ∀ f, Rel (stillE W f) (.dsl l) w := by
  rcases Go.Deep.open_slice ht h with ⟨h1, _⟩ | ⟨a, len, cap, m, n, D, Pl, h1, _, hl, hm, hmm, _, hcell⟩
  · simp only [List.cons.injEq, and_true] at h1
    subst h1
    exact ⟨[], Nat.zero_le _, fun j => by simp, fun f => .dsl0 _⟩
  · simp only [List.cons.injEq, and_true] at h1
    subst h1
    simp only [if_true] at hmm
    subst hmm
    rw [ce] at hcell
    have each : ∀ i, i < m → ∃ s : ByteArray, s.data.toList.length ≤ maxLen ∧ W.cell? (a.add i) = some (.string s) := fun i hi => by
      obtain ⟨cs', c1, c2⟩ := hcell i hi
      obtain ⟨_, c3, c4⟩ := World.cells?_some c1
      obtain ⟨s, k1, _, z1⟩ := DataW.trod_string he c2
      have := c4 0 (by decide)
      rw [Go.Deep.add_add, k1] at this
      rw [Nat.mul_one, Nat.add_zero] at this
      exact ⟨s, z1, this⟩
    rcases Nat.eq_zero_or_pos m with h0 | h0
    · subst h0
      obtain rfl : len = 0 := by omega
      exact ⟨[], Nat.zero_le _, fun j => by simp, fun f => .dsl0 _⟩
    · obtain ⟨q, hq⟩ := Go.Deep.choose_lt each
      obtain ⟨b, o, sp⟩ := a
      have hsp : sp = none := by
        cases sp with
        | none => rfl
        | some r =>
          obtain ⟨_, hy0⟩ := hq 0 h0
          rw [show (⟨b, o, some r⟩ : Addr).add 0 = ⟨b, o, some r⟩ from rfl] at hy0
          unfold World.cell? at hy0
          split at hy0 <;> simp at hy0
      subst hsp
      have hadd : ∀ j, (⟨b, o, none⟩ : Addr).add j = ⟨b, o + j, none⟩ := fun j => by
        unfold Addr.add
        split
        · rename_i e; subst e; rfl
        · rfl
      have hlast := (hq (m - 1) (by omega)).2
      rw [hadd] at hlast
      have hc2 := hlast
      unfold World.cell? at hlast
      split at hlast
      · rename_i arr t0 fz hb
        have hb' : W.heap[b]? = some (.cells arr t0 fz) := hb
        have hat : ∀ i, i < m → arr[o + i]? = some (.string (q i)) := fun i hi => by
          have := (hq i hi).2
          rw [hadd, cell_of_row W b _ arr t0 fz hb'] at this
          exact this
        have hsz := (Array.getElem?_eq_some_iff.1 (hat (m - 1) (by omega))).1
        have hlen : ((List.range len).map fun i => (q i).data.toList).length = len := by simp
        refine ⟨(List.range len).map fun i => (q i).data.toList, by omega, fun j => ?_, fun f => ?_⟩
        · rw [List.getD_eq_getElem?_getD, List.getElem?_map]
          rcases Nat.lt_or_ge j len with hj | hj
          · rw [List.getElem?_range hj]; exact (hq j (by omega)).1
          · rw [List.getElem?_eq_none (by simpa using hj)]; exact Nat.zero_le _
        · have := Rel.dsl (E := stillE W f) ((List.range len).map fun i => (q i).data.toList) _ b o m arr.size (still_at hb') (fun i x hx => by
            rw [List.getElem?_map] at hx
            rcases Nat.lt_or_ge i len with hj | hj
            · rw [List.getElem?_range hj] at hx
              simp only [Option.map_some, Option.some.injEq] at hx
              subst hx
              exact hat i (by omega)
            · rw [List.getElem?_eq_none (by simpa using hj)] at hx; cases hx) (by omega) hm (by omega)
          rwa [hlen] at this
      · cases hlast
section
variable {H : Type} {enc : TypeId × Value → H} {P : Program} {W : World} {eo : Nat → Nat × Nat}
end
end Go.Proofs.YtenocbhlbgcnfaaDoor
namespace Go.Proofs.YtenocbhlbgcnfaaDoor
open Go.ChangeShapes Go.WideShapes Go.ChangeAt Go.RowKit
/-- A slice in a cell, of elements of one cell each that may lie still: what it holds lies still. -/
theorem fsl_cell {H : Type} {enc : TypeId × Value → H} {P : Program} {W : World} {t e : TypeId} {w : Value} {fuel : Nat} {y : DataW H × List MemPlace} {α : Type} [Inhabited α] (f : α → AV) (hst : ∀ a, (f a).still = true) (ht : P.underlying t = some (.slice e)) (ce : P.cellsOf e = 1)
    (dec : ∀ n (cs' : List Value) y, cs'.length = 1 → DataW.trod enc P W 0 (fun _ => true) true n e cs' = some y → ∃ a : α, ∃ u, cs'[0]? = some u ∧ ∀ g, Rel (stillE W g) (f a) u)
    (h : DataW.trod enc P W 0 (fun _ => true) true fuel t [w] = some y) :
    ∃ l : List α, l.length ≤ maxLen ∧ ∀ g, Rel (stillE W g) (.fsl (l.map f) l.length 1) w := by
  rcases Go.Deep.open_slice ht h with ⟨h1, _⟩ | ⟨a, len, cap, m, n, D, Pl, h1, _, hl, hm, hmm, _, hcell⟩
  · simp only [List.cons.injEq, and_true] at h1
    subst h1
    exact ⟨[], Nat.zero_le _, fun g => .fsl0 1 _⟩
  · simp only [List.cons.injEq, and_true] at h1
    subst h1
    simp only [if_true] at hmm
    subst hmm
    rw [ce] at hcell
    have each : ∀ i, i < m → ∃ p : α × Value, W.cell? (a.add i) = some p.2 ∧ ∀ g, Rel (stillE W g) (f p.1) p.2 := fun i hi => by
      obtain ⟨cs', c1, c2⟩ := hcell i hi
      obtain ⟨_, c3, c4⟩ := World.cells?_some c1
      obtain ⟨q, u, hu, hr⟩ := dec n cs' _ c3 c2
      have := c4 0 (by decide)
      rw [Go.Deep.add_add, hu] at this
      rw [Nat.mul_one, Nat.add_zero] at this
      exact ⟨(q, u), this, hr⟩
    rcases Nat.eq_zero_or_pos m with h0 | h0
    · subst h0
      obtain rfl : len = 0 := by omega
      exact ⟨[], Nat.zero_le _, fun g => .fsl0 1 _⟩
    · obtain ⟨q, hq⟩ := Go.Deep.choose_lt each
      obtain ⟨b, o, sp⟩ := a
      have hsp : sp = none := by
        cases sp with
        | none => rfl
        | some r =>
          obtain ⟨hy0, _⟩ := hq 0 h0
          rw [show (⟨b, o, some r⟩ : Addr).add 0 = ⟨b, o, some r⟩ from rfl] at hy0
          unfold World.cell? at hy0
          split at hy0 <;> simp at hy0
      subst hsp
      have hadd : ∀ j, (⟨b, o, none⟩ : Addr).add j = ⟨b, o + j, none⟩ := fun j => by
        unfold Addr.add
        split
        · rename_i e; subst e; rfl
        · rfl
      have hlast := (hq (m - 1) (by omega)).1
      rw [hadd] at hlast
      unfold World.cell? at hlast
      split at hlast
      · rename_i arr t0 fz hb
        have hb' : W.heap[b]? = some (.cells arr t0 fz) := hb
        have hat : ∀ i, i < m → arr[o + i]? = some (q i).2 := fun i hi => by
          have := (hq i hi).1
          rw [hadd, cell_of_row W b _ arr t0 fz hb'] at this
          exact this
        have hsz := (Array.getElem?_eq_some_iff.1 (hat (m - 1) (by omega))).1
        have hlen : ((List.range len).map fun i => (q i).1).length = len := by simp
        refine ⟨(List.range len).map fun i => (q i).1, by omega, fun g => ?_⟩
        have := Rel.fsl (E := stillE W g) (((List.range len).map fun i => (q i).1).map f) len 1 (fun i => arr[i]?) (fun i => (q i).2) b o m arr.size (still_at hb') (by rw [List.length_map, hlen, Nat.mul_one]) (fun x hx => by
            obtain ⟨z, _, rfl⟩ := List.mem_map.1 hx
            exact hst z) (fun i hi => by
            rw [List.length_map, hlen] at hi
            exact hat i (by omega)) (fun i x hx => by
            rw [List.getElem?_map, List.getElem?_map] at hx
            rcases Nat.lt_or_ge i len with hj | hj
            · rw [List.getElem?_range hj] at hx
              simp only [Option.map_some, Option.some.injEq] at hx
              subst hx
              exact (hq i (by omega)).2 g
            · rw [List.getElem?_eq_none (by simpa using hj)] at hx; cases hx) hl hm (by omega)
        rw [hlen]
        exact this
      · cases hlast
theorem rel_agg' {E : Emb} {l : List AV} {cs : Array Value} {vs : List Value} (hc : cs.toList = vs) (h1 : l.all AV.one = true) (h : RelAll E l vs) : Rel E (.agg l) (.agg cs) := by
  have := rel_agg h1 h
  rwa [← hc, Array.toArray_toList] at this
theorem u32_litF {n : Int} (h : (Lit.int .u32 n).wf = true) : ∃ x : UInt32, n = (x.toNat : Int) := by
  simp [Lit.wf] at h
  have h1 : IntKind.u32.min = 0 := rfl
  have h2 : IntKind.u32.max = 4294967295 := rfl
  refine ⟨UInt32.ofNat n.toNat, ?_⟩
  rw [UInt32.toNat_ofNat_of_lt' (by show n.toNat < 4294967296; omega)]
  omega
/-- A message that is an argument: its lists lie still. -/
theorem msg_gen {P : Program} {H : Type} {enc : TypeId × Value → H} {W : World} {b0 tT ti tu ts tn tb eu es eb : Nat} {f0 f1 f2 f3 f4 : Field} {v : Value} {d : DataW H} {ps : List MemPlace}
    (hT : P.underlying tT = some (.struct #[f0, f1, f2, f3, f4])) (o0 : f0.offset = 0) (o1 : f1.offset = 1) (o2 : f2.offset = 2) (o3 : f3.offset = 3) (o4 : f4.offset = 4)
    (t0 : f0.type = ti) (t1 : f1.type = tu) (t2 : f2.type = ts) (t3 : f3.type = tn) (t4 : f4.type = tb) (hi : P.underlying ti = some (.int .i64))
    (hu : P.underlying tu = some (.slice eu)) (hs : P.underlying ts = some (.slice es)) (hn : P.underlying tn = some (.slice ts)) (hb : P.underlying tb = some (.slice eb))
    (he : P.underlying eu = some (.int .u32)) (hes : P.underlying es = some .string) (heb : P.underlying eb = some .bool)
    (cT : P.cellsOf tT = 5) (ci : P.cellsOf ti = 1) (cu : P.cellsOf tu = 1) (cs_ : P.cellsOf ts = 1) (cn_ : P.cellsOf tn = 1) (cb : P.cellsOf tb = 1) (ceu : P.cellsOf eu = 1) (ces : P.cellsOf es = 1) (ceb : P.cellsOf eb = 1)
    (hv : Value.okWide P W .any b0 tT v) (h : DataW.Trod enc P W 0 (fun _ => true) true tT v d ps) :
    ∃ (k : Int) (us : List UInt32) (ss : List (List UInt8)) (ns : List (List (List UInt8))) (bs : List Bool), us.length ≤ maxLen ∧ ss.length ≤ maxLen ∧ ns.length ≤ maxLen ∧ bs.length ≤ maxLen ∧ (∀ j, (ss.getD j []).length ≤ maxLen) ∧ (∀ j, (ns.getD j []).length ≤ maxLen) ∧ (∀ i j, ((ns.getD i []).getD j []).length ≤ maxLen) ∧
      ∀ g, Rel (stillE W g) (.agg [.i64 k, .fsl (us.map .u32) us.length 1, .dsl ss, .fsl (ns.map .dsl) ns.length 1, .fsl (bs.map .bool) bs.length 1]) v := by
  simp only [Value.okWide, hT] at hv
  obtain ⟨cs, rfl, hsz, _⟩ := hv
  obtain ⟨fuel, hf⟩ := h
  simp only [Value.cells] at hf
  obtain ⟨xs, n, hn0, hx, hcl, hxl, hfield⟩ := DataW.trod_struct hT hf
  have hxl' : xs.length = 5 := hxl
  have g : ∀ i, i < 5 → ∃ x, xs[i]? = some x := fun i hi => ⟨xs[i], List.getElem?_eq_getElem (by omega)⟩
  obtain ⟨x0, e0⟩ := g 0 (by decide)
  obtain ⟨x1, e1⟩ := g 1 (by decide)
  obtain ⟨x2, e2⟩ := g 2 (by decide)
  obtain ⟨x3, e3⟩ := g 3 (by decide)
  obtain ⟨x4, e4⟩ := g 4 (by decide)
  have q0 := hfield 0 f0 rfl
  have q1 := hfield 1 f1 rfl
  have q2 := hfield 2 f2 rfl
  have q3 := hfield 3 f3 rfl
  have q4 := hfield 4 f4 rfl
  rw [t0, o0, ci, e0] at q0
  rw [t1, o1, cu, e1] at q1
  rw [t2, o2, cs_, e2] at q2
  rw [t3, o3, cn_, e3] at q3
  rw [t4, o4, cb, e4] at q4
  have hlen : cs.toList.length = 5 := by rw [Array.length_toList, hsz, cT]
  match hc : cs.toList, hlen with
  | [w0, w1, w2, w3, w4], _ =>
    rw [hc] at q0 q1 q2 q3 q4
    simp only [List.drop_zero, List.take_succ_cons, List.take_zero, List.drop_succ_cons, List.take_nil] at q0 q1 q2 q3 q4
    obtain ⟨k, k0, _, _⟩ := DataW.trod_int hi q0
    simp only [List.cons.injEq, and_true] at k0
    obtain ⟨us, hul, hur⟩ := fsl_cell (P := P) (W := W) AV.u32 (fun _ => rfl) hu ceu (fun n cs' y hl hy => by
      obtain ⟨m, m0, _, z⟩ := DataW.trod_int he hy
      obtain ⟨u, rfl⟩ := u32_litF z
      exact ⟨u, _, by rw [m0]; rfl, fun g => .u32 u⟩) q1
    obtain ⟨ss, hsl, hsj, hsr⟩ := dsl_cell hs hes ces q2
    letI : Inhabited { l : List (List UInt8) // l.length ≤ maxLen ∧ ∀ j, (l.getD j []).length ≤ maxLen } := ⟨⟨[], Nat.zero_le _, fun j => by simp⟩⟩
    obtain ⟨ns, hnl, hnr⟩ := fsl_cell (P := P) (W := W) (α := { l : List (List UInt8) // l.length ≤ maxLen ∧ ∀ j, (l.getD j []).length ≤ maxLen }) (fun l => AV.dsl l.1) (fun _ => rfl) hn cs_ (fun n cs' y hl hy => by
      match cs', hl with
      | [c0], _ =>
        obtain ⟨l, hl, hj, hr⟩ := dsl_cell hs hes ces hy
        exact ⟨⟨l, hl, hj⟩, c0, rfl, hr⟩) q3
    obtain ⟨bs, hbl, hbr⟩ := fsl_cell (P := P) (W := W) AV.bool (fun _ => rfl) hb ceb (fun n cs' y hl hy => by
      obtain ⟨m, m0, _⟩ := DataW.trod_bool heb hy
      exact ⟨m, _, by rw [m0]; rfl, fun g => .bool m⟩) q4
    have hnn : (ns.map (fun l => AV.dsl l.1)) = ((ns.map (·.1)).map AV.dsl) := by rw [List.map_map]; rfl
    refine ⟨k, us, ss, ns.map (·.1), bs, hul, hsl, by rw [List.length_map]; exact hnl, hbl, hsj, fun j => ?_, fun i j => ?_, fun g => ?_⟩
    · rw [List.getD_eq_getElem?_getD, List.getElem?_map]
      cases ns[j]? with
      | none => exact Nat.zero_le _
      | some q => exact q.2.1
    · have : ∀ q : List (List UInt8), (∃ r : { l : List (List UInt8) // l.length ≤ maxLen ∧ ∀ j, (l.getD j []).length ≤ maxLen }, r.1 = q) → (q.getD j []).length ≤ maxLen := fun q ⟨r, hr⟩ => by rw [← hr]; exact r.2.2 j
      rw [List.getD_eq_getElem?_getD (l := ns.map (·.1)), List.getElem?_map]
      cases ns[i]? with
      | none => simp
      | some q => exact q.2.2 j
    · have hr := hnr g
      rw [hnn] at hr
      refine rel_agg' hc rfl ⟨?_, hur g, hsr g, ?_, hbr g, trivial⟩
      · rw [k0]; exact .i64 k
      · rw [List.length_map]; exact hr
end Go.Proofs.YtenocbhlbgcnfaaDoor
namespace Go.Proofs.YtenocbhlbgcnfaaDoor
open Go.ChangeShapes Go.WideShapes Go.ChangeAt Go.RowKit
def errTexts : List (List UInt8) := [[97, 110, 32, 97, 114, 103, 117, 109, 101, 110, 116, 32, 116, 104, 97, 116, 32, 109, 97, 121, 32, 110, 111, 116, 32, 98, 101], [98, 121, 116, 101, 115, 32, 97, 114, 101, 32, 119, 97, 110, 116, 105, 110, 103], [98, 121, 116, 101, 115, 32, 116, 104, 97, 116, 32, 115, 97, 121, 32, 110, 111, 116, 104, 105, 110, 103], [109, 111, 114, 101, 32, 116, 104, 97, 110, 32, 116, 104, 101, 114, 101, 32, 109, 97, 121, 32, 98, 101], [97, 32, 115, 117, 109, 32, 116, 104, 97, 116, 32, 100, 111, 101, 115, 110, 39, 116, 32, 102, 105, 116], [110, 111, 116, 32, 110, 111, 119], [116, 104, 101, 114, 101, 32, 105, 115, 32, 110, 111, 32, 114, 111, 111, 109], [116, 104, 101, 114, 101, 32, 105, 115, 32, 110, 111, 110, 101], [105, 116, 32, 105, 115, 32, 116, 104, 101, 114, 101, 32, 97, 108, 114, 101, 97, 100, 121], [97, 32, 107, 101, 121, 32, 116, 104, 97, 116, 32, 109, 97, 121, 32, 110, 111, 116, 32, 98, 101], [97, 32, 115, 105, 103, 110, 97, 116, 117, 114, 101, 32, 116, 104, 97, 116, 32, 100, 111, 101, 115, 110, 39, 116, 32, 102, 105, 116], [97, 110, 111, 116, 104, 101, 114, 32, 118, 101, 114, 115, 105, 111, 110], [110, 111, 116, 104, 105, 110, 103, 32, 105, 110, 32, 99, 111, 109, 109, 111, 110], [97, 110, 111, 116, 104, 101, 114, 32, 104, 111, 115, 116, 39, 115, 32, 107, 101, 121], [105, 116, 32, 109, 97, 121, 32, 110, 111, 116, 32, 99, 111, 109, 101, 32, 105, 110], [109, 111, 114, 101, 32, 116, 104, 97, 110, 32, 105, 116, 115, 32, 115, 104, 97, 114, 101], [97, 32, 110, 97, 109, 101, 32, 116, 104, 97, 116, 32, 109, 97, 121, 32, 110, 111, 116, 32, 98, 101], [105, 116, 32, 105, 115, 32, 103, 111, 110, 101], [98, 101, 121, 111, 110, 100, 32, 116, 104, 101, 32, 119, 105, 110, 100, 111, 119], [116, 104, 101, 114, 101, 32, 105, 115, 32, 110, 111, 32, 115, 117, 99, 104, 32, 107, 105, 110, 100]]
theorem texts_ne : ∀ i, i < 20 → ∀ j, j < 20 → errTexts.getD i [] = errTexts.getD j [] → i = j := by decide +kernel
theorem known_blk {W : World} {g n : Nat} {text : List UInt8} {eo : Nat → Nat × Nat} (h : SentAt W g (eo n) text) (hn : n < 49) : (⟨AV.agg [], errT, false⟩ : ABlk).own = false ∧ ∃ l s, errE W eo (401 + n) = some (l, s) ∧ BAt (errE W eo) ⟨.agg [], errT, false⟩ W l s := by
  obtain ⟨_, ⟨arr, t, h1⟩, _⟩ := h
  refine ⟨rfl, _, _, errE_err W eo n hn, arr, t, (0, 0), h1, (size_at h1).symm, ⟨⟨fun h => (by cases h), fun _ => rfl, fun _ h => absurd h (show ¬ (2000000 : Nat) ≤ 1000000 by decide)⟩, .inl rfl⟩, ?_, fun i x hx => ?_⟩
  · simp [AV.list, AV.parts]
  · simp [AV.list, AV.parts] at hx
theorem known_app {W : World} {E : Emb} : ∀ {a b : List (Nat × Option ABlk)}, known W E a → known W E b → known W E (a ++ b)
  | [], _, _, h => h
  | (_, none) :: r, _, h, k => known_app (a := r) h k
  | (_, some _) :: r, _, h, k => ⟨h.1, known_app (a := r) h.2 k⟩
theorem laid_errs {r : List (String × DataW Unit)} {W : World} (h : laidMet Tryd.prog (("speakeasy/api.ErrArg", Rows.laid_speakeasy_api_ErrArg) :: ("speakeasy/api.ErrEnd", Rows.laid_speakeasy_api_ErrEnd) :: ("speakeasy/api.ErrForm", Rows.laid_speakeasy_api_ErrForm) :: ("speakeasy/api.ErrBig", Rows.laid_speakeasy_api_ErrBig) :: ("speakeasy/api.ErrMac", Rows.laid_speakeasy_api_ErrMac) :: ("speakeasy/api.ErrState", Rows.laid_speakeasy_api_ErrState) :: ("speakeasy/api.ErrFull", Rows.laid_speakeasy_api_ErrFull) :: ("speakeasy/api.ErrNone", Rows.laid_speakeasy_api_ErrNone) :: ("speakeasy/api.ErrHave", Rows.laid_speakeasy_api_ErrHave) :: ("speakeasy/api.ErrKey", Rows.laid_speakeasy_api_ErrKey) :: ("speakeasy/api.ErrSign", Rows.laid_speakeasy_api_ErrSign) :: ("speakeasy/api.ErrVersion", Rows.laid_speakeasy_api_ErrVersion) :: ("speakeasy/api.ErrAlgo", Rows.laid_speakeasy_api_ErrAlgo) :: ("speakeasy/api.ErrHost", Rows.laid_speakeasy_api_ErrHost) :: ("speakeasy/api.ErrAuth", Rows.laid_speakeasy_api_ErrAuth) :: ("speakeasy/api.ErrQuota", Rows.laid_speakeasy_api_ErrQuota) :: ("speakeasy/api.ErrName", Rows.laid_speakeasy_api_ErrName) :: ("speakeasy/api.ErrGone", Rows.laid_speakeasy_api_ErrGone) :: ("speakeasy/api.ErrWindow", Rows.laid_speakeasy_api_ErrWindow) :: ("speakeasy/api.ErrKind", Rows.laid_speakeasy_api_ErrKind) :: r) W) : ∃ eo : Nat → Nat × Nat, (∀ i j, i < 20 → j < 20 → i ≠ j → eo i ≠ eo j) ∧ known W (errE W eo) [(0, some ⟨.agg [.err 131 (1) (offE eo (1))], errT, false⟩), (1, some ⟨.agg [.err 131 (2) (offE eo (2))], errT, false⟩), (2, some ⟨.agg [.err 131 (3) (offE eo (3))], errT, false⟩), (3, some ⟨.agg [.err 131 (4) (offE eo (4))], errT, false⟩), (4, some ⟨.agg [.err 131 (5) (offE eo (5))], errT, false⟩), (5, some ⟨.agg [.err 131 (6) (offE eo (6))], errT, false⟩), (6, some ⟨.agg [.err 131 (7) (offE eo (7))], errT, false⟩), (7, some ⟨.agg [.err 131 (8) (offE eo (8))], errT, false⟩), (8, some ⟨.agg [.err 131 (9) (offE eo (9))], errT, false⟩), (9, some ⟨.agg [.err 131 (10) (offE eo (10))], errT, false⟩), (10, some ⟨.agg [.err 131 (11) (offE eo (11))], errT, false⟩), (11, some ⟨.agg [.err 131 (12) (offE eo (12))], errT, false⟩), (12, some ⟨.agg [.err 131 (13) (offE eo (13))], errT, false⟩), (13, some ⟨.agg [.err 131 (14) (offE eo (14))], errT, false⟩), (14, some ⟨.agg [.err 131 (15) (offE eo (15))], errT, false⟩), (15, some ⟨.agg [.err 131 (16) (offE eo (16))], errT, false⟩), (16, some ⟨.agg [.err 131 (17) (offE eo (17))], errT, false⟩), (17, some ⟨.agg [.err 131 (18) (offE eo (18))], errT, false⟩), (18, some ⟨.agg [.err 131 (19) (offE eo (19))], errT, false⟩), (19, some ⟨.agg [.err 131 (20) (offE eo (20))], errT, false⟩), (401, some ⟨.agg [], errT, false⟩), (402, some ⟨.agg [], errT, false⟩), (403, some ⟨.agg [], errT, false⟩), (404, some ⟨.agg [], errT, false⟩), (405, some ⟨.agg [], errT, false⟩), (406, some ⟨.agg [], errT, false⟩), (407, some ⟨.agg [], errT, false⟩), (408, some ⟨.agg [], errT, false⟩), (409, some ⟨.agg [], errT, false⟩), (410, some ⟨.agg [], errT, false⟩), (411, some ⟨.agg [], errT, false⟩), (412, some ⟨.agg [], errT, false⟩), (413, some ⟨.agg [], errT, false⟩), (414, some ⟨.agg [], errT, false⟩), (415, some ⟨.agg [], errT, false⟩), (416, some ⟨.agg [], errT, false⟩), (417, some ⟨.agg [], errT, false⟩), (418, some ⟨.agg [], errT, false⟩), (419, some ⟨.agg [], errT, false⟩), (420, some ⟨.agg [], errT, false⟩)] := by
  have h0 := h
  have h1 := laidMet_tail h0
  have h2 := laidMet_tail h1
  have h3 := laidMet_tail h2
  have h4 := laidMet_tail h3
  have h5 := laidMet_tail h4
  have h6 := laidMet_tail h5
  have h7 := laidMet_tail h6
  have h8 := laidMet_tail h7
  have h9 := laidMet_tail h8
  have h10 := laidMet_tail h9
  have h11 := laidMet_tail h10
  have h12 := laidMet_tail h11
  have h13 := laidMet_tail h12
  have h14 := laidMet_tail h13
  have h15 := laidMet_tail h14
  have h16 := laidMet_tail h15
  have h17 := laidMet_tail h16
  have h18 := laidMet_tail h17
  have h19 := laidMet_tail h18
  obtain ⟨a0, s0⟩ := laid_err (g := 0) (text := [97, 110, 32, 97, 114, 103, 117, 109, 101, 110, 116, 32, 116, 104, 97, 116, 32, 109, 97, 121, 32, 110, 111, 116, 32, 98, 101]) h0 (by kernel_rfl) (by kernel_rfl)
  obtain ⟨a1, s1⟩ := laid_err (g := 1) (text := [98, 121, 116, 101, 115, 32, 97, 114, 101, 32, 119, 97, 110, 116, 105, 110, 103]) h1 (by kernel_rfl) (by kernel_rfl)
  obtain ⟨a2, s2⟩ := laid_err (g := 2) (text := [98, 121, 116, 101, 115, 32, 116, 104, 97, 116, 32, 115, 97, 121, 32, 110, 111, 116, 104, 105, 110, 103]) h2 (by kernel_rfl) (by kernel_rfl)
  obtain ⟨a3, s3⟩ := laid_err (g := 3) (text := [109, 111, 114, 101, 32, 116, 104, 97, 110, 32, 116, 104, 101, 114, 101, 32, 109, 97, 121, 32, 98, 101]) h3 (by kernel_rfl) (by kernel_rfl)
  obtain ⟨a4, s4⟩ := laid_err (g := 4) (text := [97, 32, 115, 117, 109, 32, 116, 104, 97, 116, 32, 100, 111, 101, 115, 110, 39, 116, 32, 102, 105, 116]) h4 (by kernel_rfl) (by kernel_rfl)
  obtain ⟨a5, s5⟩ := laid_err (g := 5) (text := [110, 111, 116, 32, 110, 111, 119]) h5 (by kernel_rfl) (by kernel_rfl)
  obtain ⟨a6, s6⟩ := laid_err (g := 6) (text := [116, 104, 101, 114, 101, 32, 105, 115, 32, 110, 111, 32, 114, 111, 111, 109]) h6 (by kernel_rfl) (by kernel_rfl)
  obtain ⟨a7, s7⟩ := laid_err (g := 7) (text := [116, 104, 101, 114, 101, 32, 105, 115, 32, 110, 111, 110, 101]) h7 (by kernel_rfl) (by kernel_rfl)
  obtain ⟨a8, s8⟩ := laid_err (g := 8) (text := [105, 116, 32, 105, 115, 32, 116, 104, 101, 114, 101, 32, 97, 108, 114, 101, 97, 100, 121]) h8 (by kernel_rfl) (by kernel_rfl)
  obtain ⟨a9, s9⟩ := laid_err (g := 9) (text := [97, 32, 107, 101, 121, 32, 116, 104, 97, 116, 32, 109, 97, 121, 32, 110, 111, 116, 32, 98, 101]) h9 (by kernel_rfl) (by kernel_rfl)
  obtain ⟨a10, s10⟩ := laid_err (g := 10) (text := [97, 32, 115, 105, 103, 110, 97, 116, 117, 114, 101, 32, 116, 104, 97, 116, 32, 100, 111, 101, 115, 110, 39, 116, 32, 102, 105, 116]) h10 (by kernel_rfl) (by kernel_rfl)
  obtain ⟨a11, s11⟩ := laid_err (g := 11) (text := [97, 110, 111, 116, 104, 101, 114, 32, 118, 101, 114, 115, 105, 111, 110]) h11 (by kernel_rfl) (by kernel_rfl)
  obtain ⟨a12, s12⟩ := laid_err (g := 12) (text := [110, 111, 116, 104, 105, 110, 103, 32, 105, 110, 32, 99, 111, 109, 109, 111, 110]) h12 (by kernel_rfl) (by kernel_rfl)
  obtain ⟨a13, s13⟩ := laid_err (g := 13) (text := [97, 110, 111, 116, 104, 101, 114, 32, 104, 111, 115, 116, 39, 115, 32, 107, 101, 121]) h13 (by kernel_rfl) (by kernel_rfl)
  obtain ⟨a14, s14⟩ := laid_err (g := 14) (text := [105, 116, 32, 109, 97, 121, 32, 110, 111, 116, 32, 99, 111, 109, 101, 32, 105, 110]) h14 (by kernel_rfl) (by kernel_rfl)
  obtain ⟨a15, s15⟩ := laid_err (g := 15) (text := [109, 111, 114, 101, 32, 116, 104, 97, 110, 32, 105, 116, 115, 32, 115, 104, 97, 114, 101]) h15 (by kernel_rfl) (by kernel_rfl)
  obtain ⟨a16, s16⟩ := laid_err (g := 16) (text := [97, 32, 110, 97, 109, 101, 32, 116, 104, 97, 116, 32, 109, 97, 121, 32, 110, 111, 116, 32, 98, 101]) h16 (by kernel_rfl) (by kernel_rfl)
  obtain ⟨a17, s17⟩ := laid_err (g := 17) (text := [105, 116, 32, 105, 115, 32, 103, 111, 110, 101]) h17 (by kernel_rfl) (by kernel_rfl)
  obtain ⟨a18, s18⟩ := laid_err (g := 18) (text := [98, 101, 121, 111, 110, 100, 32, 116, 104, 101, 32, 119, 105, 110, 100, 111, 119]) h18 (by kernel_rfl) (by kernel_rfl)
  obtain ⟨a19, s19⟩ := laid_err (g := 19) (text := [116, 104, 101, 114, 101, 32, 105, 115, 32, 110, 111, 32, 115, 117, 99, 104, 32, 107, 105, 110, 100]) h19 (by kernel_rfl) (by kernel_rfl)
  refine ⟨fun n => [a0, a1, a2, a3, a4, a5, a6, a7, a8, a9, a10, a11, a12, a13, a14, a15, a16, a17, a18, a19].getD n (0, 0), fun i j hi hj hne he => ?_, ?_⟩
  · have key : ∀ k, k < 20 → ∃ s, W.cell? ⟨([a0, a1, a2, a3, a4, a5, a6, a7, a8, a9, a10, a11, a12, a13, a14, a15, a16, a17, a18, a19].getD k (0, 0)).1, ([a0, a1, a2, a3, a4, a5, a6, a7, a8, a9, a10, a11, a12, a13, a14, a15, a16, a17, a18, a19].getD k (0, 0)).2, none⟩ = some (.string s) ∧ s.data.toList = errTexts.getD k [] := fun k hk => by
      match k, hk with
      | 0, _ => exact s0.txt
      | 1, _ => exact s1.txt
      | 2, _ => exact s2.txt
      | 3, _ => exact s3.txt
      | 4, _ => exact s4.txt
      | 5, _ => exact s5.txt
      | 6, _ => exact s6.txt
      | 7, _ => exact s7.txt
      | 8, _ => exact s8.txt
      | 9, _ => exact s9.txt
      | 10, _ => exact s10.txt
      | 11, _ => exact s11.txt
      | 12, _ => exact s12.txt
      | 13, _ => exact s13.txt
      | 14, _ => exact s14.txt
      | 15, _ => exact s15.txt
      | 16, _ => exact s16.txt
      | 17, _ => exact s17.txt
      | 18, _ => exact s18.txt
      | 19, _ => exact s19.txt
      | k + 20, hk => exact absurd hk (by omega)
    obtain ⟨s, c1, c2⟩ := key i hi
    obtain ⟨s', c3, c4⟩ := key j hj
    simp only at he
    rw [he] at c1
    rw [c1] at c3
    injection c3 with c3
    injection c3 with c3
    subst c3
    exact hne (texts_ne i hi j hj (c2.symm.trans c4))
  · exact ⟨known_var (n := 0) s0 (by decide) (by decide), known_var (n := 1) s1 (by decide) (by decide), known_var (n := 2) s2 (by decide) (by decide), known_var (n := 3) s3 (by decide) (by decide), known_var (n := 4) s4 (by decide) (by decide), known_var (n := 5) s5 (by decide) (by decide), known_var (n := 6) s6 (by decide) (by decide), known_var (n := 7) s7 (by decide) (by decide), known_var (n := 8) s8 (by decide) (by decide), known_var (n := 9) s9 (by decide) (by decide), known_var (n := 10) s10 (by decide) (by decide), known_var (n := 11) s11 (by decide) (by decide), known_var (n := 12) s12 (by decide) (by decide), known_var (n := 13) s13 (by decide) (by decide), known_var (n := 14) s14 (by decide) (by decide), known_var (n := 15) s15 (by decide) (by decide), known_var (n := 16) s16 (by decide) (by decide), known_var (n := 17) s17 (by decide) (by decide), known_var (n := 18) s18 (by decide) (by decide), known_var (n := 19) s19 (by decide) (by decide), known_blk (n := 0) s0 (by decide), known_blk (n := 1) s1 (by decide), known_blk (n := 2) s2 (by decide), known_blk (n := 3) s3 (by decide), known_blk (n := 4) s4 (by decide), known_blk (n := 5) s5 (by decide), known_blk (n := 6) s6 (by decide), known_blk (n := 7) s7 (by decide), known_blk (n := 8) s8 (by decide), known_blk (n := 9) s9 (by decide), known_blk (n := 10) s10 (by decide), known_blk (n := 11) s11 (by decide), known_blk (n := 12) s12 (by decide), known_blk (n := 13) s13 (by decide), known_blk (n := 14) s14 (by decide), known_blk (n := 15) s15 (by decide), known_blk (n := 16) s16 (by decide), known_blk (n := 17) s17 (by decide), known_blk (n := 18) s18 (by decide), known_blk (n := 19) s19 (by decide), trivial⟩
end Go.Proofs.YtenocbhlbgcnfaaDoor
namespace Go.Proofs.YtenocbhlbgcnfaaDoor
open Go.ChangeShapes Go.WideShapes Go.ChangeAt Go.RowKit
def kindData (i : Nat) : DataW Unit := .agg [.lit (.int .i64 (kNums.getD i 0)), .lit (.string (kNames.getD i [])), .lit (.string (kFields.getD i []))]
theorem kinds_gen {P : Program} {n : String} {r : List (String × DataW Unit)} {W : World} {g : Nat} {t e ti ts : TypeId} {f0 f1 f2 : Field} (h : laidMet P ((n, .agg ((List.range 29).map kindData)) :: r) W)
    (hg : P.globalNamed n = some g) (ht : (P.globals[g]?).map (·.type) = some t) (hu : P.underlying t = some (.array 29 e)) (he : P.underlying e = some (.struct #[f0, f1, f2])) (ce : P.cellsOf e = 3)
    (o0 : f0.offset = 0) (o1 : f1.offset = 1) (o2 : f2.offset = 2) (t0 : f0.type = ti) (t1 : f1.type = ts) (t2 : f2.type = ts) (hi : P.underlying ti = some (.int .i64)) (hs : P.underlying ts = some .string) (c0 : P.cellsOf ti = 1) (c1 : P.cellsOf ts = 1) :
    ∃ arr q, W.heap[g]? = some (.cells arr q (0, 0)) ∧ ∀ i, i < 29 → arr[i * 3]? = some (.int .i64 (kNums.getD i 0)) ∧ arr[i * 3 + 1]? = some (.string ⟨(kNames.getD i []).toArray⟩) ∧ arr[i * 3 + 2]? = some (.string ⟨(kFields.getD i []).toArray⟩) := by
  obtain ⟨ps, ⟨g0, t0', cs0, fl0, p0, q0, hg0, ht0, hv0, hd0, _, e0⟩, _, hrows⟩ := h
  obtain rfl := Option.some.inj (hg.symm.trans hg0)
  obtain rfl := Option.some.inj (ht.symm.trans ht0)
  subst e0
  have hcell := World.var?_cell hg0 hv0
  obtain ⟨xs, m, hm, hx, hlen, hxl, hf⟩ := DataW.trod_array hu hd0
  have each : ∀ i, i < 29 → cs0.toList[i * 3]? = some (.int .i64 (kNums.getD i 0)) ∧ cs0.toList[i * 3 + 1]? = some (.string ⟨(kNames.getD i []).toArray⟩) ∧ cs0.toList[i * 3 + 2]? = some (.string ⟨(kFields.getD i []).toArray⟩) := fun i hi' => by
    have hfi := hf i hi'
    rw [ce] at hfi
    have hxi : xs[i]? = some xs[i] := List.getElem?_eq_getElem (by omega)
    rw [hxi] at hfi
    have hdi : xs[i].1 = kindData i := by
      have h1 := congrArg Prod.fst hx
      simp only [DataW.agg.injEq] at h1
      have h2 := congrArg (fun l => l[i]?) h1
      simp only [List.getElem?_map, List.getElem?_range hi', hxi, Option.map_some, Option.some.injEq] at h2
      exact h2.symm
    obtain ⟨ys, m2, hm2, hy, hcl, hyl, hfy⟩ := DataW.trod_struct he hfi
    have g0' := hfy 0 f0 rfl
    have g1' := hfy 1 f1 rfl
    have g2' := hfy 2 f2 rfl
    rw [o0, t0, c0] at g0'
    rw [o1, t1, c1] at g1'
    rw [o2, t2, c1] at g2'
    have hyl' : ys.length = 3 := hyl
    obtain ⟨y0, y1, y2, rfl⟩ : ∃ a b c, ys = [a, b, c] := by
      match ys, hyl' with
      | [a, b, c], _ => exact ⟨a, b, c, rfl⟩
    obtain ⟨z0, k0, k1, _⟩ := DataW.trod_int hi g0'
    obtain ⟨s1, k2, k3, _⟩ := DataW.trod_string hs g1'
    obtain ⟨s2, k4, k5, _⟩ := DataW.trod_string hs g2'
    rw [hy] at hdi
    simp only [kindData, List.map_cons, List.map_nil, DataW.agg.injEq, List.cons.injEq, and_true] at hdi
    obtain ⟨d0, d1, d2⟩ := hdi
    have w0 := (congrArg Prod.fst k1).symm.trans d0
    have w1 := (congrArg Prod.fst k3).symm.trans d1
    have w2 := (congrArg Prod.fst k5).symm.trans d2
    simp only [DataW.lit.injEq, Lit.int.injEq, true_and] at w0
    simp only [DataW.lit.injEq, Lit.string.injEq] at w1 w2
    have take1 : ∀ (k : Nat) (v : Value), (((cs0.toList.drop (i * 3)).take 3).drop k).take 1 = [v] → cs0.toList[i * 3 + k]? = some v := fun k v hh => by
      have h1 := congrArg (fun l => l[0]?) hh
      simp only [List.getElem?_take, List.getElem?_drop, List.getElem?_cons_zero] at h1
      split at h1
      · split at h1
        · simpa using h1
        · cases h1
      · cases h1
    refine ⟨by have := take1 0 _ k0; rw [w0] at this; simpa using this, ?_, ?_⟩
    · have := take1 1 _ k2
      rw [this, ← w1]
    · have := take1 2 _ k4
      rw [this, ← w2]
  obtain ⟨⟨c, q, hb⟩, _⟩ := hrows g 0 (by
    have : 0 < cs0.size := by
      have := (List.getElem?_eq_some_iff.1 (each 0 (by decide)).1).1
      simpa using this
    simp [MemPlace.row]; omega)
  refine ⟨c, q, hb, fun i hi' => ?_⟩
  have tr : ∀ j v, cs0.toList[j]? = some v → c[j]? = some v := fun j v hv => by
    have h1 := hcell j
    rw [cell_of_row W g j c q (0, 0) hb] at h1
    rw [h1]; rw [Array.getElem?_toList] at hv; exact hv
  exact ⟨tr _ _ (each i hi').1, tr _ _ (each i hi').2.1, tr _ _ (each i hi').2.2⟩
theorem kindsD : (Rows.laid_speakeasy_message_kinds : DataW Unit) = .agg ((List.range 29).map kindData) := by kernel_rfl
theorem known_kinds {r : List (String × DataW Unit)} {W : World} {eo : Nat → Nat × Nat} (h : laidMet Tryd.prog (("speakeasy/message.kinds", Rows.laid_speakeasy_message_kinds) :: r) W) :
    (⟨AV.agg kindCells, errT, false⟩ : ABlk).own = false ∧ ∃ l s, errE W eo 20 = some (l, s) ∧ BAt (errE W eo) ⟨.agg kindCells, errT, false⟩ W l s := by
  rw [kindsD] at h
  obtain ⟨arr, q, h1, h2⟩ := kinds_gen h (by kernel_rfl) (by kernel_rfl) Tryd.underlying70 Tryd.underlying69 (by kernel_rfl) rfl rfl rfl rfl rfl rfl Tryd.underlying3 Tryd.underlying9 (by kernel_rfl) (by kernel_rfl)
  refine ⟨rfl, 20, sizeAt W 20, by simp [errE], arr, q, (0, 0), h1, (size_at h1).symm, ⟨⟨fun h => (by cases h), fun _ => rfl, fun _ h => absurd h (show ¬ (2000000 : Nat) ≤ 1000000 by decide)⟩, .inl rfl⟩, ?_, fun i x hx => ?_⟩
  · have := (Array.getElem?_eq_some_iff.1 (h2 28 (by decide)).2.2).1
    rw [size_at h1]
    show 87 ≤ arr.size
    omega
  · have hi : i < 87 := (List.getElem?_eq_some_iff.1 hx).1
    have hr := kind_row (i / 3) (by omega)
    injection hr with hr
    have hx' : ((kindCells.drop (i / 3 * 3)).take 3)[i % 3]? = some x := by
      rw [List.getElem?_take, if_pos (by omega), List.getElem?_drop, show i / 3 * 3 + i % 3 = i by omega]; exact hx
    rw [hr] at hx'
    obtain ⟨k0, k1, k2⟩ := h2 (i / 3) (by omega)
    have hm : i % 3 = 0 ∨ i % 3 = 1 ∨ i % 3 = 2 := by omega
    rcases hm with e | e | e
    · rw [e] at hx'; injection hx' with hx'; subst hx'
      exact ⟨rfl, _, (congrArg (fun z => arr[z]?) (show i = i / 3 * 3 by omega)).trans k0, .i64 _⟩
    · rw [e] at hx'; injection hx' with hx'; subst hx'
      exact ⟨rfl, _, (congrArg (fun z => arr[z]?) (show i = i / 3 * 3 + 1 by omega)).trans k1, .str _⟩
    · rw [e] at hx'; injection hx' with hx'; subst hx'
      exact ⟨rfl, _, (congrArg (fun z => arr[z]?) (show i = i / 3 * 3 + 2 by omega)).trans k2, .str _⟩
end Go.Proofs.YtenocbhlbgcnfaaDoor
namespace Go.Proofs.YtenocbhlbgcnfaaDoor
open Go.ChangeShapes Go.WideShapes Go.ChangeAt Go.RowKit
/-- The sentinels' names, and all of the world at the start lies still. -/
def errD (W : World) (eo : Nat → Nat × Nat) : Emb := stillE W (errE W eo).f
theorem errE_leD (W : World) (eo : Nat → Nat × Nat) : (errE W eo).le (errD W eo) := ⟨fun _ _ h => h, fun _ _ h => by cases h⟩
theorem errD_glob (W : World) (eo : Nat → Nat × Nat) : ∀ g, g < 400 → ∃ s, errD W eo g = some (g, s) := errE_glob W eo
theorem errD_top (W : World) (eo : Nat → Nat × Nat) : ∀ n, 1000 ≤ n → errD W eo n = none := errE_top W eo
theorem errD_at (W : World) (eo : Nat → Nat × Nat) : ∀ a L s, (errD W eo).d a = some (L, s) → DAt W a L s := stillE_at W _
theorem getD_mapB {α β : Type} (f : α → β) (l : List α) (i : Nat) (p : β → Prop) (d : β) (h0 : p d) (h : ∀ a, p (f a)) : p ((l.map f).getD i d) := by
  rw [List.getD_eq_getElem?_getD, List.getElem?_map]
  cases l[i]? with
  | none => exact h0
  | some a => exact h a
theorem sum_max {m : Nat} : ∀ l : List (List UInt8), (∀ x ∈ l, x.length ≤ m) → sumB l ≤ l.length * m
  | [], _ => Nat.zero_le _
  | x :: l, h => by
    have h1 := sum_max l fun y hy => h y (List.mem_cons_of_mem _ hy)
    have h2 := h x (List.mem_cons_self ..)
    have h3 : sumB (x :: l) = x.length + sumB l := rfl
    rw [h3, List.length_cons, Nat.succ_mul]; omega
theorem fwL_len (l : List (List UInt8)) : (fwL l).length ≤ 6 := by unfold fwL; rw [List.length_map, List.length_take]; omega
theorem fwL_mem (l : List (List UInt8)) : ∀ x ∈ fwL l, x.length ≤ 70 := fun x hx => by
  obtain ⟨y, _, rfl⟩ := List.mem_map.1 hx
  rw [List.length_take]; omega
theorem fwL_sum (l : List (List UInt8)) : sumB (fwL l) ≤ 420 := by
  have h1 := sum_max (fwL l) (fwL_mem l)
  have h2 := fwL_len l
  omega
theorem fwL_join (l : List (List UInt8)) : (joinB (fwL l)).length ≤ 430 := by
  have h1 := joinB_le (fwL l)
  have h2 := fwL_len l
  have h3 := fwL_sum l
  omega
theorem fwL_at (l : List (List UInt8)) (j : Nat) : ((fwL l).getD j []).length ≤ 70 := getD_mapB _ _ j (fun x : List UInt8 => x.length ≤ 70) [] (Nat.zero_le _) fun a => by rw [List.length_take]; omega
theorem messageBack_ev (k : Int) (us : List UInt32) (ss : List (List UInt8)) (ns : List (List (List UInt8))) (bs : List Bool) (hul : us.length ≤ maxLen) (hsl : ss.length ≤ maxLen) (hnl : ns.length ≤ maxLen) (hbl : bs.length ≤ maxLen) (hsj : ∀ j, (ss.getD j []).length ≤ maxLen) (hnn : ∀ j, (ns.getD j []).length ≤ maxLen) (hnj : ∀ i j, ((ns.getD i []).getD j []).length ≤ maxLen) (eo : Nat → Nat × Nat) (hd : ∀ i j, i < 20 → j < 20 → i ≠ j → eo i ≠ eo j) : Meets Tryd.prog 3 [.agg [.i64 k, .fsl (List.map AV.u32 us) (us).length 1, .dsl ss, .fsl (List.map AV.dsl ns) (ns).length 1, .fsl (List.map AV.bool bs) (bs).length 1]] [(0, some ⟨.agg [.err 131 (1) (offE eo (1))], errT, false⟩), (1, some ⟨.agg [.err 131 (2) (offE eo (2))], errT, false⟩), (2, some ⟨.agg [.err 131 (3) (offE eo (3))], errT, false⟩), (3, some ⟨.agg [.err 131 (4) (offE eo (4))], errT, false⟩), (4, some ⟨.agg [.err 131 (5) (offE eo (5))], errT, false⟩), (5, some ⟨.agg [.err 131 (6) (offE eo (6))], errT, false⟩), (6, some ⟨.agg [.err 131 (7) (offE eo (7))], errT, false⟩), (7, some ⟨.agg [.err 131 (8) (offE eo (8))], errT, false⟩), (8, some ⟨.agg [.err 131 (9) (offE eo (9))], errT, false⟩), (9, some ⟨.agg [.err 131 (10) (offE eo (10))], errT, false⟩), (10, some ⟨.agg [.err 131 (11) (offE eo (11))], errT, false⟩), (11, some ⟨.agg [.err 131 (12) (offE eo (12))], errT, false⟩), (12, some ⟨.agg [.err 131 (13) (offE eo (13))], errT, false⟩), (13, some ⟨.agg [.err 131 (14) (offE eo (14))], errT, false⟩), (14, some ⟨.agg [.err 131 (15) (offE eo (15))], errT, false⟩), (15, some ⟨.agg [.err 131 (16) (offE eo (16))], errT, false⟩), (16, some ⟨.agg [.err 131 (17) (offE eo (17))], errT, false⟩), (17, some ⟨.agg [.err 131 (18) (offE eo (18))], errT, false⟩), (18, some ⟨.agg [.err 131 (19) (offE eo (19))], errT, false⟩), (19, some ⟨.agg [.err 131 (20) (offE eo (20))], errT, false⟩), (401, some ⟨.agg [], errT, false⟩), (402, some ⟨.agg [], errT, false⟩), (403, some ⟨.agg [], errT, false⟩), (404, some ⟨.agg [], errT, false⟩), (405, some ⟨.agg [], errT, false⟩), (406, some ⟨.agg [], errT, false⟩), (407, some ⟨.agg [], errT, false⟩), (408, some ⟨.agg [], errT, false⟩), (409, some ⟨.agg [], errT, false⟩), (410, some ⟨.agg [], errT, false⟩), (411, some ⟨.agg [], errT, false⟩), (412, some ⟨.agg [], errT, false⟩), (413, some ⟨.agg [], errT, false⟩), (414, some ⟨.agg [], errT, false⟩), (415, some ⟨.agg [], errT, false⟩), (416, some ⟨.agg [], errT, false⟩), (417, some ⟨.agg [], errT, false⟩), (418, some ⟨.agg [], errT, false⟩), (419, some ⟨.agg [], errT, false⟩), (420, some ⟨.agg [], errT, false⟩), (20, some ⟨.agg kindCells, errT, false⟩)] (.bool true) [] := by
  have few := few_ev k us ss ns bs hul hsl hnl hbl hsj hnn hnj
  have b1 : (us.take 9).length ≤ 9 := by rw [List.length_take]; omega
  have b2 : (fwS ss).length ≤ 9 := by unfold fwS; rw [List.length_map, List.length_take]; omega
  have b3 : (fwN ns).length ≤ 14 := by unfold fwN; rw [List.length_map, List.length_take]; omega
  have b4 : (bs.take 9).length ≤ 9 := by rw [List.length_take]; omega
  have b5 : ∀ i, ((fwS ss).getD i []).length ≤ 100 := fun i => getD_mapB _ _ i (fun x : List UInt8 => x.length ≤ 100) [] (Nat.zero_le _) fun a => by rw [List.length_take]; omega
  have b6 : ∀ i, (joinB ((fwN ns).getD i [])).length ≤ 430 := fun i => getD_mapB fwL _ i (fun x => (joinB x).length ≤ 430) [] (Nat.zero_le _) fwL_join
  have b7 : ∀ i, sumB ((fwN ns).getD i []) ≤ 430 := fun i => getD_mapB fwL _ i (fun x => sumB x ≤ 430) [] (Nat.zero_le _) fun a => Nat.le_trans (fwL_sum a) (by decide)
  have b8 : ∀ i, ((fwN ns).getD i []).length ≤ 6 := fun i => getD_mapB fwL _ i (fun x => x.length ≤ 6) [] (Nat.zero_le _) fwL_len
  have b9 : ∀ i j, (((fwN ns).getD i []).getD j []).length ≤ 70 := fun i j => getD_mapB fwL _ i (fun x => (x.getD j []).length ≤ 70) [] (Nat.zero_le _) fun a => fwL_at a j
  by_cases hk : chkF k (us.take 9) (fwS ss) (fwN ns) (bs.take 9) = 0
  · exact messageBack_ok k us ss ns bs _ _ _ _ few b1 b2 b3 b4 b5 b6 b7 b8 b9 hk eo hd
  · exact messageBack_bad k us ss ns bs _ _ _ _ few b1 b2 b3 b4 b5 b6 b7 b8 b9 hk eo hd
set_option maxRecDepth 100000 in
theorem messageBack_all {H : Type} {enc : TypeId × Value → H} {v : Value} {d : DataW H} {ps : List MemPlace} (W : World) {b0 : Nat} (hv : Value.okWide Tryd.prog W .any b0 27 v)
  (ht : DataW.Trod enc Tryd.prog W 0 (fun _ => true) true 27 v d ps) (h : laidMet Tryd.prog Rows.messageBackRow.laid W) :
  Calls Tryd.prog 3 #[v] W fun e W' => e = .returned (.bool true) ∧ Below W.heap.size W W' := by
 have h0 := laidMet_tail h
 have h1 := laidMet_tail h0
 have h2 := laidMet_tail h1
 have h3 := laidMet_tail h2
 have h4 := laidMet_tail h3
 have h5 := laidMet_tail h4
 have h6 := laidMet_tail h5
 have h7 := laidMet_tail h6
 have h8 := laidMet_tail h7
 have h9 := laidMet_tail h8
 have h10 := laidMet_tail h9
 have h11 := laidMet_tail h10
 have h12 := laidMet_tail h11
 have h13 := laidMet_tail h12
 have h14 := laidMet_tail h13
 have h15 := laidMet_tail h14
 have h16 := laidMet_tail h15
 have h17 := laidMet_tail h16
 have h18 := laidMet_tail h17
 have h19 := laidMet_tail h18
 have h20 := laidMet_tail h19
 obtain ⟨eo, hd, hkn⟩ := laid_errs h0
 obtain ⟨k, us, ss, ns, bs, a1, a2, a3, a4, a5, a6, a7, hr⟩ := msg_gen (P := Tryd.prog) (W := W) Tryd.underlying27 rfl rfl rfl rfl rfl rfl rfl rfl rfl rfl Tryd.underlying3 Tryd.underlying22 Tryd.underlying23 Tryd.underlying24 Tryd.underlying25 Tryd.underlying42 Tryd.underlying9 Tryd.underlying4 (by kernel_rfl) (by kernel_rfl) (by kernel_rfl) (by kernel_rfl) (by kernel_rfl) (by kernel_rfl) (by kernel_rfl) (by kernel_rfl) (by kernel_rfl) hv ht
 refine walk_of_meets_at (errD W eo) (errD_glob _ _) (errD_top _ _) (messageBack_ev k us ss ns bs a1 a2 a3 a4 a5 a6 a7 eo hd) rfl (fun i x y hx hy => ?_) (known.spec (known.mono (errE_leD W eo) (known_app hkn ⟨known_kinds h20, trivial⟩))) (errD_at W _)
 match i, hx, hy with
 | 0, hx, hy => injection hx with hx; injection hy with hy; subst hx; subst hy; exact hr _
 | i + 1, hx, _ => simp at hx
end Go.Proofs.YtenocbhlbgcnfaaDoor
