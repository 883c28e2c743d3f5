/-
  Texts of this claim.
-/
import Derived.Test.YtenocbhlbgcnfaaDoorGTE
namespace Go.Proofs.YtenocbhlbgcnfaaDoor
open Go.RowKit
def mx32 (p q : UInt32) : UInt32 := if p.toNat < q.toNat then q else p
def mn32 (p q : UInt32) : UInt32 := if q.toNat < p.toNat then q else p
def mn64 (p q : UInt64) : UInt64 := if q.toNat < p.toNat then q else p
section
variable {P : Program} {T : Nat → Option AV} {H : Hp} {nm : Nat} {wr : Bool} {v u c c' : AV} {d : Option Tmp} {ty : TypeId} {ps : String} {af : Array Edge} {gd : Option (Nat × Bool)} {t t' t2 e : TypeId} {x y z : Operand} {b o n : Nat} {k : ABlk} {ts : Array TypeId}
theorem op_cap_run {i : Int} (hx : aev T x = some u) (h : ∀ (E : Emb) (y : Value) (w : World), Rel E u y → (Builtin.cap_ #[t] ty #[y]).run P w = .ok (.int .i64 i) w) :
    OpSem P T H ⟨d, .call { callee := .builtin .cap, args := #[x], argTypes := #[t] }, ty, ps, af, gd⟩ nm wr (.i64 i) [] :=
  .quiet fun E a w hop => by
    have hr := hop x (by simp [Op.operands, Call.operands]) _ hx
    exact ⟨.int .i64 i, by simp [execOp, resolve, invoke, builtin, h E _ w hr], .i64 _⟩
theorem op_cap_nil (ht : P.underlying t = some (.slice e)) (hx : aev T x = some .nilsl) :
    OpSem P T H ⟨d, .call { callee := .builtin .cap, args := #[x], argTypes := #[t] }, ty, ps, af, gd⟩ nm wr (.i64 0) [] :=
  op_cap_run hx fun E y w hr => by rw [hr.nilsl_inv]; simp [Builtin.cap_, run_underlying ht, goInt]
end
end Go.Proofs.YtenocbhlbgcnfaaDoor
namespace Go.Proofs.YtenocbhlbgcnfaaDoor
open Go.RowKit
/-- What an operation does, in one of several ways. -/
def OpSemX (P : Program) (T : Nat → Option AV) (H : Hp) (o : Oper) (nm : Nat) (wr : Bool) (ι : Type) (v : ι → AV) (U : ι → List (Nat × Option ABlk)) : Prop :=
  ∀ (E : Emb) (S : Nat → Prop) (n0 : Nat) (H2 : Hp) (a : Act) (w : World),
    (∀ k, n0 ≤ k → S k) → n0 ≤ w.heap.size → 1000 ≤ nm → (∀ g, g < 400 → ∃ s, E g = some (g, s)) → (wr = true → H2 = H) → (∀ b k, H b = some k → H2 b = some k) →
    (∀ x ∈ o.op.operands, ∀ u, aev T x = some u → Rel E u (a.eval x)) → RH E S H2 w → (∀ b, nm ≤ b → b < nm + 8 → E b = none) →
    ∀ (K : Act → World → Prop) (Q : Exit → Act → World → Prop),
      (∀ i y w' E', (∀ b, (lk (U i) b = none ∨ ¬ (nm ≤ b ∧ b < nm + 8)) → E' b = E b) → Emb.dx S E E' → Rel E' (v i) y → RH E' S (upd (U i) H2) w' → Fr S w w' → K (a.put o.dst y) w') → o.wp P a w K Q
section
variable {P : Program} {nt : Nat} {st : St}
variable {ops rest : List Oper} {post : St → Prop} {op : Op} {d : Tmp} {ty : TypeId} {ps : String} {af : Array Edge} {gd : Option (Nat × Bool)}
end
/-- The places where an appended slice of ints may begin, and its block's cells. -/
def AppX (L : List Int) (o n : Nat) (cs : List Int) : Type := { p : Nat × List Int // p.2.length = p.1 + (n + cs.length) ∧ p.2.drop p.1 = L.drop o ++ cs }
section
variable {P : Program} {T : Nat → Option AV} {H : Hp} {nm : Nat} {wr : Bool} {d : Option Tmp} {ty : TypeId} {ps : String} {af : Array Edge} {gd : Option (Nat × Bool)} {t t2 e : TypeId} {x y : Operand} {b o n m : Nat} {L : List Int} {d2 : TypeDesc} {zv : Value}
end
end Go.Proofs.YtenocbhlbgcnfaaDoor
namespace Go.Proofs.YtenocbhlbgcnfaaDoor
open Go.RowKit
/-- A contract that ends in one of several ways. -/
def MeetsX (P : Program) (f : FuncId) (args : List AV) (H0 : List (Nat × Option ABlk)) (ι : Type) (v : ι → AV) (H1 : ι → List (Nat × Option ABlk)) : Prop :=
  ∀ (E : Emb) (S : Nat → Prop) (n0 : Nat) (vals : Array Value) (w : World), (∀ g, g < 400 → ∃ s, E g = some (g, s)) → (∀ b, 1000 ≤ b → E b = none) →
    args.length = vals.size → (∀ (i : Nat) x y, args[i]? = some x → vals[i]? = some y → Rel E x y) → RH E S (hget H0) w → (∀ k, n0 ≤ k → S k) → n0 ≤ w.heap.size →
    Calls P f vals w fun e w' => ∃ i y E', e = .returned y ∧ Emb.kp S E E' ∧ Rel E' (v i) y ∧ RH E' S (hget (H1 i)) w' ∧ Fr S w w'
theorem Meets.x {P : Program} {f : FuncId} {args : List AV} {H0 H1 : List (Nat × Option ABlk)} {v : AV} (h : Meets P f args H0 v H1) : MeetsX P f args H0 Unit (fun _ => v) (fun _ => H1) := by
  intro E S n0 vals w h1 h2 h3 h4 h5 h6 h7
  refine (h E S n0 vals w h1 h2 h3 h4 h5 h6 h7).mono fun e w' hh => ?_
  obtain ⟨y, E', hh⟩ := hh
  exact ⟨(), y, E', hh⟩
theorem MeetsX.imp {P : Program} {f : FuncId} {args : List AV} {H0 : List (Nat × Option ABlk)} {ι κ : Type} {v : ι → AV} {H1 : ι → List (Nat × Option ABlk)} {v' : κ → AV} {H1' : κ → List (Nat × Option ABlk)} (h : MeetsX P f args H0 ι v H1) (g : ι → κ) (hv : ∀ i, v i = v' (g i)) (hH : ∀ i, H1 i = H1' (g i)) : MeetsX P f args H0 κ v' H1' := by
  intro E S n0 vals w h1 h2 h3 h4 h5 h6 h7
  refine (h E S n0 vals w h1 h2 h3 h4 h5 h6 h7).mono fun e w' hh => ?_
  obtain ⟨i, y, E', q1, q2, q3, q4⟩ := hh
  exact ⟨g i, y, E', q1, q2, hv i ▸ q3, hH i ▸ q4⟩
section
variable {P : Program} {T : Nat → Option AV} {H : Hp} {nm : Nat} {d : Option Tmp} {ty : TypeId} {ps : String} {af : Array Edge} {gd : Option (Nat × Bool)}
end
end Go.Proofs.YtenocbhlbgcnfaaDoor
namespace Go.Proofs.YtenocbhlbgcnfaaDoor
open Go.RowKit
section
variable {P : Program} {T : Nat → Option AV} {H : Hp} {nm : Nat} {wr : Bool} {d : Option Tmp} {ty t : TypeId} {ps : String} {af : Array Edge} {gd : Option (Nat × Bool)} {x y : Operand}
end
/-- The places where an appended slice of bytes may begin, and its block's cells. -/
def AppB (L : List UInt8) (o n : Nat) (cs : List UInt8) : Type := { p : Nat × List UInt8 // p.2.length = p.1 + (n + cs.length) ∧ p.2.drop p.1 = L.drop o ++ cs ∧ p.1 ≤ o }
section
variable {P : Program} {T : Nat → Option AV} {H : Hp} {nm : Nat} {wr : Bool} {d : Option Tmp} {ty : TypeId} {ps : String} {af : Array Edge} {gd : Option (Nat × Bool)} {t t2 e : TypeId} {x y : Operand} {b o n m : Nat} {L : List UInt8} {d2 : TypeDesc} {zv : Value}
end
end Go.Proofs.YtenocbhlbgcnfaaDoor
namespace Go.Proofs.YtenocbhlbgcnfaaDoor
open Go.RowKit
/-- A slice that is nil if it has no element, else all of block b. -/
def slO (b n z : Nat) : AV := match n with
  | 0 => .nilsl
  | m + 1 => .sl b 0 (m + 1) z
/-- Its block: none if it has no element. -/
def opt (c : AV) (n : Nat) (t : TypeId) : Option ABlk := match n with
  | 0 => none
  | _ + 1 => some ⟨c, t, true⟩
theorem slO_ren (f : Nat → Nat) (b n z : Nat) : (slO b n z).ren f = slO (f b) n z := by cases n <;> rfl
theorem slO_nm {L : List (Nat × Nat)} {b : Nat} (n z : Nat) (h : nmOk L [b] = true) : nmOk L (slO b n z).names = true := by
  cases n with
  | zero => rfl
  | succ m => exact h
theorem slO_nmC {L : List (Nat × Nat)} {b : Nat} (n z : Nat) (h : nmOkC L [b] = true) : nmOkC L (slO b n z).names = true := by
  cases n with
  | zero => rfl
  | succ m => exact h
theorem slO_nmF {L N : List (Nat × Nat)} {b : Nat} (n z : Nat) (h : nmOkF L N [b] = true) : nmOkF L N (slO b n z).names = true := by
  cases n with
  | zero => rfl
  | succ m => exact h
theorem opt_some {c : AV} {n : Nat} {t : TypeId} {k : ABlk} (h : opt c n t = some k) : k = ⟨c, t, true⟩ ∧ 0 < n := by
  cases n with
  | zero => cases h
  | succ m => injection h with h; exact ⟨h.symm, Nat.succ_pos m⟩
/-- An entry of which it is not said whether it is there. -/
theorem HLe.oc {F : Hp} {L : List (Nat × Nat)} {c : Nat} {o : Option ABlk} {r : List (Nat × Option ABlk)} (h : ∀ k2, o = some k2 → ∃ b k, src L c = some b ∧ F b = some k ∧ k.c.ren (back L) = k2.c ∧ ElemLe k k2 ∧ (k2.own = true → k.own = true) ∧ nmOk L k.c.names = true) (hr : HLe F L r) : HLe F L ((c, o) :: r) := by
  cases o with
  | none => exact hr
  | some k => exact ⟨h k rfl, hr⟩
theorem HLeC.oc {F : Hp} {L : List (Nat × Nat)} {c : Nat} {o : Option ABlk} {r : List (Nat × Option ABlk)} (h : ∀ k2, o = some k2 → ∃ b k, srcC L c = some b ∧ F b = some k ∧ k.c.ren (backC L) = k2.c ∧ ElemLe k k2 ∧ (k2.own = true → k.own = true) ∧ nmOkC L k.c.names = true) (hr : HLeC F L r) : HLeC F L ((c, o) :: r) := by
  cases o with
  | none => exact hr
  | some k => exact ⟨h k rfl, hr⟩
theorem Cov.oc {L : List (Nat × Nat)} {U : List (Nat × Option ABlk)} {c : Nat} {o : Option ABlk} {r : List (Nat × Option ABlk)} (h : ∃ b q, lk L c = some b ∧ lk U b = some q) (hr : Cov L U r) : Cov L U ((c, o) :: r) := by
  cases o with
  | none => exact hr
  | some k => exact ⟨fun _ => h, hr⟩
/-- The entry of a list, taken over as it is; flat contents: no name, the same in other names. -/
theorem opt_le {F : Hp} {L : List (Nat × Nat)} {c0 b n : Nat} {c : AV} {t : TypeId} (hs : src L c0 = some b) (hF : ∀ k, opt c n t = some k → F b = some k) (hren : c.ren (back L) = c) (hnm : nmOk L c.names = true) : ∀ k2, opt c n t = some k2 → ∃ b k, src L c0 = some b ∧ F b = some k ∧ k.c.ren (back L) = k2.c ∧ ElemLe k k2 ∧ (k2.own = true → k.own = true) ∧ nmOk L k.c.names = true := fun k2 h => by
  have h1 := (opt_some h).1
  exact ⟨b, k2, hs, hF k2 h, by rw [h1]; exact hren, rfl, id, by rw [h1]; exact hnm⟩
theorem opt_leC {F : Hp} {L : List (Nat × Nat)} {c0 b n : Nat} {c : AV} {t : TypeId} (hs : srcC L c0 = some b) (hF : ∀ k, opt c n t = some k → F b = some k) (hren : c.ren (backC L) = c) (hnm : nmOkC L c.names = true) : ∀ k2, opt c n t = some k2 → ∃ b k, srcC L c0 = some b ∧ F b = some k ∧ k.c.ren (backC L) = k2.c ∧ ElemLe k k2 ∧ (k2.own = true → k.own = true) ∧ nmOkC L k.c.names = true := fun k2 h => by
  have h1 := (opt_some h).1
  exact ⟨b, k2, hs, hF k2 h, by rw [h1]; exact hren, rfl, id, by rw [h1]; exact hnm⟩
section
variable {P : Program} {T : Nat → Option AV} {H : Hp} {nm : Nat} {wr : Bool} {d : Option Tmp} {ty : TypeId} {ps : String} {af : Array Edge} {gd : Option (Nat × Bool)} {t t2 e : TypeId} {x y : Operand} {b n z m : Nat} {d2 : TypeDesc} {zv : Value} {c c' : AV} {cs : List AV}
/-- What is known of one more name may be forgotten. -/
theorem OpSem.drop {o : Oper} {v : AV} {U : List (Nat × Option ABlk)} (h : OpSem P T H o nm wr v U) (_hb : b < nm) : OpSem P T H o nm wr v (U ++ [(b, none)]) := by
  intro E S n0 H2 a w h1 h2 h3 h4 h5 h6 h7 h8 h9 K Q hK
  refine h E S n0 H2 a w h1 h2 h3 h4 h5 h6 h7 h8 h9 K Q fun y w' E' g1 g2 g3 g4 g5 => hK y w' E' (fun r hr => g1 r ?_) g2 g3 (g4.less fun q k hq => ?_) g5
  · rw [lk_append] at hr
    rcases hr with hr | hr
    · cases hl : lk U r with
      | none => exact .inl rfl
      | some q => rw [hl] at hr; cases hr
    · exact .inr hr
  · simp only [upd, lk_append] at hq ⊢
    cases hl : lk U q with
    | some r => rw [hl] at hq; exact hq
    | none =>
      rw [hl] at hq
      simp only [Option.none_or, lk] at hq
      split at hq
      · rename_i r hr
        split at hr
        · injection hr with hr; subst hr; cases hq
        · cases hr
      · exact hq
theorem ap_append_slO (ht : P.underlying t = some (.slice e)) (ht2 : P.underlying t2 = some d2) (hd2 : notInt d2) (hi : Inf P e z zv) (hx : aev T x = some (slO b n z)) (hk : ∀ k, opt c n e = some k → H b = some k) (hn : c.len = n * z) (hs : Srcs P T H y z m cs) (hc : c'.list = c.list ++ cs) (h0 : 0 < m) (hb : b < nm) (hlim : n + m ≤ 10000000000)
    (hm0 : c'.isMap = false := by first | rfl | assumption | exact AV.map_parts (by assumption)) (hm1 : c.isMap = false := by first | rfl | assumption | exact AV.map_parts (by assumption)) :
    OpSem P T H ⟨d, .call { callee := .builtin .append, args := #[x, y], argTypes := #[t, t2] }, ty, ps, af, gd⟩ nm wr (.sl nm 0 (n + m) z) [(nm, some ⟨c', e, true⟩), (b, none)] := by
  cases n with
  | zero =>
    have hl : c.list = [] := List.eq_nil_of_length_eq_zero (by rw [len_list]; rw [hn, Nat.zero_mul])
    rw [hl, List.nil_append] at hc
    rw [Nat.zero_add]
    exact (ap_append_nil ht ht2 hd2 hi hx hs hc h0 (by omega) hm0).drop (b := b) hb
  | succ q => exact ap_append (k := ⟨c, e, true⟩) ht ht2 hd2 hi hx (hk _ rfl) rfl rfl hn hs hc hlim hm0 hm1
end
end Go.Proofs.YtenocbhlbgcnfaaDoor
