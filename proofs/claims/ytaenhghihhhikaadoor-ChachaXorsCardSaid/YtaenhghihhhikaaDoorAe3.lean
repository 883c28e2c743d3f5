/-
  Code over abstract values: what a piece of code does to the slots and the named blocks. Nothing of the program is named here.
-/
import Derived.Test.YtaenhghihhhikaaDoorAe2
namespace Go.Proofs.YtaenhghihhhikaaDoor
open Go.RowKit

mutual
/-- The value with other names for its blocks. -/
def AV.ren (r : Nat → Nat) : AV → AV
  | .ptr b o => .ptr (r b) o
  | .sl b o n z => .sl (r b) o n z
  | .agg cs => .agg (AV.renL r cs)
  | .tup cs => .tup (AV.renL r cs)
  | .ifc t v => .ifc t (v.ren r)
  | .u8 x => .u8 x
  | .u32 x => .u32 x
  | .u64 x => .u64 x
  | .i64 x => .i64 x
  | .bool x => .bool x
  | .str x => .str x
  | .nilsl => .nilsl
  | .aggB x => .aggB x
  | .agg32 x => .agg32 x
  | .agg64 x => .agg64 x
  | .aggI x => .aggI x
  | .aggS x => .aggS x
  | .val x => .val x
def AV.renL (r : Nat → Nat) : List AV → List AV
  | [] => []
  | x :: l => x.ren r :: AV.renL r l
end
mutual
def AV.names : AV → List Nat
  | .ptr b _ => [b]
  | .sl b _ _ _ => [b]
  | .agg cs => AV.namesL cs
  | .tup cs => AV.namesL cs
  | .ifc _ v => v.names
  | _ => []
def AV.namesL : List AV → List Nat
  | [] => []
  | x :: l => x.names ++ AV.namesL l
end
theorem renL_eq (r : Nat → Nat) (l : List AV) : AV.renL r l = l.map (AV.ren r) := by
  induction l with
  | nil => rfl
  | cons x l ih => simp [AV.renL, ih]
theorem names_mem {l : List AV} {x : AV} (hx : x ∈ l) : ∀ b ∈ x.names, b ∈ AV.namesL l := by
  induction l with
  | nil => cases hx
  | cons y l ih =>
    intro b hb
    simp only [AV.namesL, List.mem_append]
    rcases List.mem_cons.1 hx with rfl | h
    · exact .inl hb
    · exact .inr (ih h b hb)
theorem ren_one (r : Nat → Nat) (x : AV) : (x.ren r).one = x.one := by cases x <;> rfl
theorem parts_ren (r : Nat → Nat) {a : AV} {cs : List AV} (h : a.parts = some cs) : (a.ren r).parts = some (cs.map (AV.ren r)) := by
  cases a with
  | agg l => simp only [AV.parts, Option.some.injEq] at h; subst h; simp [AV.ren, AV.parts, renL_eq]
  | aggB l => simp only [AV.parts, Option.some.injEq] at h; subst h; simp [AV.ren, AV.parts]
  | agg32 l => simp only [AV.parts, Option.some.injEq] at h; subst h; simp [AV.ren, AV.parts]
  | agg64 l => simp only [AV.parts, Option.some.injEq] at h; subst h; simp [AV.ren, AV.parts]
  | aggI l => simp only [AV.parts, Option.some.injEq] at h; subst h; simp [AV.ren, AV.parts]
  | aggS l => simp only [AV.parts, Option.some.injEq] at h; subst h; simp [AV.ren, AV.parts]
  | _ => cases h
theorem parts_names {a : AV} {cs : List AV} (h : a.parts = some cs) {x : AV} (hx : x ∈ cs) : ∀ b ∈ x.names, b ∈ a.names := by
  cases a with
  | agg l => simp only [AV.parts, Option.some.injEq] at h; subst h; exact names_mem hx
  | aggB l => simp only [AV.parts, Option.some.injEq] at h; subst h; obtain ⟨y, _, rfl⟩ := List.mem_map.1 hx; intro b hb; cases hb
  | agg32 l => simp only [AV.parts, Option.some.injEq] at h; subst h; obtain ⟨y, _, rfl⟩ := List.mem_map.1 hx; intro b hb; cases hb
  | agg64 l => simp only [AV.parts, Option.some.injEq] at h; subst h; obtain ⟨y, _, rfl⟩ := List.mem_map.1 hx; intro b hb; cases hb
  | aggI l => simp only [AV.parts, Option.some.injEq] at h; subst h; obtain ⟨y, _, rfl⟩ := List.mem_map.1 hx; intro b hb; cases hb
  | aggS l => simp only [AV.parts, Option.some.injEq] at h; subst h; obtain ⟨y, _, rfl⟩ := List.mem_map.1 hx; intro b hb; cases hb
  | _ => cases h
theorem get_map_some {α β : Type} {f : α → β} {l : List α} {i : Nat} {x : β} (h : (l.map f)[i]? = some x) : ∃ y, l[i]? = some y ∧ x = f y := by
  rw [List.getElem?_map] at h
  cases hy : l[i]? with
  | none => rw [hy] at h; cases h
  | some y => rw [hy] at h; injection h with h; exact ⟨y, rfl, h.symm⟩
theorem Rel.ren {E E' : Emb} {r : Nat → Nat} {a : AV} {y : Value} (h : Rel E a y) (hn : ∀ b ∈ a.names, ∀ p, E b = some p → E' (r b) = some p) : Rel E' (a.ren r) y := by
  induction h with
  | u8 x => exact .u8 x
  | u32 x => exact .u32 x
  | u64 x => exact .u64 x
  | i64 x => exact .i64 x
  | bool b => exact .bool b
  | str s => exact .str s
  | ptr b o l s h => exact .ptr _ o l s (hn b (by simp [AV.names]) _ h)
  | sl b o n z l s c h h1 h2 h3 => exact .sl _ o n z l s c (hn b (by simp [AV.names]) _ h) h1 h2 h3
  | sl0 b o z ad => exact .sl0 _ o z ad
  | nilsl => exact .nilsl
  | agg a cs ds h1 h2 h3 _ ih =>
    refine .agg _ (cs.map (AV.ren r)) ds (parts_ren r h1) (by simpa using h2) (fun x hx => ?_) (fun i x y hx hy => ?_)
    · obtain ⟨z, hz, rfl⟩ := List.mem_map.1 hx; rw [ren_one]; exact h3 z hz
    · obtain ⟨z, hz, rfl⟩ := get_map_some hx
      exact ih i z y hz hy (fun b hb => hn b (parts_names h1 (List.mem_of_getElem? hz) b hb))
  | tup cs ds h2 _ ih =>
    simp only [AV.ren, renL_eq]
    refine .tup _ ds (by simpa using h2) (fun i x y hx hy => ?_)
    obtain ⟨z, hz, rfl⟩ := get_map_some hx
    exact ih i z y hz hy (fun b hb => hn b (by simp only [AV.names]; exact names_mem (List.mem_of_getElem? hz) b hb))
  | ifc t x y _ ih => exact .ifc t _ y (ih hn)
  | val v => exact .val v
theorem list_ren (r : Nat → Nat) (a : AV) : (a.ren r).list = a.list.map (AV.ren r) := by
  cases a <;> simp [AV.ren, AV.list, AV.parts, renL_eq]
theorem list_names {a : AV} {x : AV} (hx : x ∈ a.list) : ∀ b ∈ x.names, b ∈ a.names := by
  cases h : a.parts with
  | none => simp [AV.list, h] at hx
  | some cs => simp only [AV.list, h, Option.getD_some] at hx; exact parts_names h hx
theorem BAt.ren {E E' : Emb} {r : Nat → Nat} {k : ABlk} {w : World} {l s : Nat} (h : BAt E k w l s) (hn : ∀ b ∈ k.c.names, ∀ p, E b = some p → E' (r b) = some p) (ow : Bool) (how : ow = true → k.own = true) : BAt E' ⟨k.c.ren r, k.elem, ow⟩ w l s := by
  obtain ⟨arr, fz, h1, h2, h3, h4, h5⟩ := h
  refine ⟨arr, fz, h1, h2, fun h => h3 (how h), by simpa [list_ren] using h4, fun i x hx => ?_⟩
  simp only [list_ren] at hx
  obtain ⟨z, hz, rfl⟩ := get_map_some hx
  obtain ⟨h6, y, h7, h8⟩ := h5 i z hz
  exact ⟨by rw [ren_one]; exact h6, y, h7, h8.ren (fun b hb => hn b (list_names (List.mem_of_getElem? hz) b hb))⟩

structure St where
  T : List (Nat × AV)
  H : List (Nat × Option ABlk)
  nx : Nat
structure RS (E : Emb) (S : Nat → Prop) (n0 nt : Nat) (st : St) (a : Act) (w : World) : Prop where
  rt : ∀ t v, lk st.T t = some v → Rel E v (a.tmps.getD t undef)
  nt : a.tmps.size = nt
  df : a.defers = []
  rh : RH E S (hget st.H) w
  fr : ∀ b, st.nx ≤ b → E b = none
  gl : ∀ g, g < 500 → ∃ s, E g = some (g, s)
  hS : ∀ k, n0 ≤ k → S k
  h0 : n0 ≤ w.heap.size
theorem RS.aev {E : Emb} {S : Nat → Prop} {n0 nt : Nat} {st : St} {a : Act} {w : World} (h : RS E S n0 nt st a w) (x : Operand) (u : AV) (hx : aev (lk st.T) x = some u) : Rel E u (a.eval x) := by
  cases x with
  | tmp t => exact h.rt t u hx
  | const v => exact rel_cst E v u hx
  | global g =>
    simp only [Go.Proofs.YtaenhghihhhikaaDoor.aev] at hx
    split at hx
    · rename_i hg
      injection hx with hx; subst hx
      obtain ⟨s, hs⟩ := h.gl g (blt_true hg)
      exact .ptr g 0 g s hs
    · cases hx
  | func f => simp only [Go.Proofs.YtaenhghihhhikaaDoor.aev, Option.some.injEq] at hx; subst hx; exact .val _
/-- What is so when a piece of code has been left: in a way that post allows. -/
def Done (E : Emb) (S : Nat → Prop) (n0 nt : Nat) (post : Exit → St → Prop) (w : World) (e : Exit) (a' : Act) (w' : World) : Prop :=
  ∃ st' E', post e st' ∧ (∀ b, b < 1000 → E' b = E b) ∧ RS E' S n0 nt st' a' w' ∧ Fr S w w'
def Ev (P : Program) (nt : Nat) (c : Code) (st : St) (post : Exit → St → Prop) : Prop :=
  ∀ E S n0 a w, 1000 ≤ st.nx → RS E S n0 nt st a w → c.wp P (Done E S n0 nt (fun e st' => 1000 ≤ st'.nx ∧ post e st') w) a w
def EvL (P : Program) (nt : Nat) (ops l : List Oper) (st : St) (post : St → Prop) : Prop :=
  ∀ E S n0 a w (Q : Exit → Act → World → Prop), 1000 ≤ st.nx → RS E S n0 nt st a w →
    (∀ st' E' a' w', 1000 ≤ st'.nx → post st' → (∀ b, b < 1000 → E' b = E b) → RS E' S n0 nt st' a' w' → Fr S w w' → Q .normal a' w') → wpList P ops.toArray Q l a w

theorem Done.trans {E E1 : Emb} {S : Nat → Prop} {n0 nt : Nat} {post : Exit → St → Prop} {w w1 w2 : World} {e : Exit} {a : Act} (hE : ∀ b, b < 1000 → E1 b = E b) (hF : Fr S w w1) (h : Done E1 S n0 nt post w1 e a w2) : Done E S n0 nt post w e a w2 := by
  obtain ⟨st', E', h1, h2, h3, h4⟩ := h
  exact ⟨st', E', h1, fun b hb => (h2 b hb).trans (hE b hb), h3, hF.trans h4⟩
section
variable {P : Program} {nt : Nat} {st : St} {post : Exit → St → Prop}
def thenA (nxt : St → Prop) (post : Exit → St → Prop) : Exit → St → Prop
  | .normal, st => nxt st
  | e, st => post e st
def inA (id : Nat) (post : Exit → St → Prop) : Exit → St → Prop
  | .exit id', st => if id' = id then post .normal st else post (.exit id') st
  | e, st => post e st
theorem Ev.mono {c : Code} {post' : Exit → St → Prop} (h : Ev P nt c st post) (hp : ∀ e st', post e st' → post' e st') : Ev P nt c st post' :=
  fun E S n0 a w hn hR => wp_mono (h E S n0 a w hn hR) fun _ _ _ ⟨st', E', h1, h2⟩ => ⟨st', E', ⟨h1.1, hp _ _ h1.2⟩, h2⟩
theorem Ev.seq {x y : Code} (h : Ev P nt x st (thenA (fun st' => Ev P nt y st' post) post)) : Ev P nt (.seq x y) st post := by
  intro E S n0 a w hn hR
  refine wp_seq (wp_mono (h E S n0 a w hn hR) fun e a' w' hD => ?_)
  obtain ⟨st', E', ⟨hn', h1⟩, h2, h3, h4⟩ := hD
  cases e with
  | normal => exact wp_mono (h1 E' S n0 a' w' hn' h3) fun e a'' w'' hD' => Done.trans h2 h4 hD'
  | _ => exact ⟨st', E', ⟨hn', h1⟩, h2, h3, h4⟩
theorem Ev.region {id : Nat} {l : List Oper} (h : EvL P nt l l st (post .normal)) : Ev P nt (.region id l.toArray false) st post := by
  intro E S n0 a w hn hR
  exact wp_region_lit (h E S n0 a w _ hn hR fun st' E' a' w' h1 h2 h3 h4 h5 => ⟨st', E', ⟨h1, h2⟩, h3, h4, h5⟩)
theorem Ev.cond_true {c : Operand} {x y : Code} {b : Bool} (hc : aev (lk st.T) c = some (.bool b)) (hb : b = true) (h : Ev P nt x st post) : Ev P nt (.cond c x y) st post :=
  fun E S n0 a w hn hR => wp_cond_true (by have := (hR.aev c _ hc).bool_inv; rw [this, hb]) (h E S n0 a w hn hR)
theorem Ev.cond_false {c : Operand} {x y : Code} {b : Bool} (hc : aev (lk st.T) c = some (.bool b)) (hb : b = false) (h : Ev P nt y st post) : Ev P nt (.cond c x y) st post :=
  fun E S n0 a w hn hR => wp_cond_false (by have := (hR.aev c _ hc).bool_inv; rw [this, hb]) (h E S n0 a w hn hR)
theorem Ev.cond {c : Operand} {x y : Code} {b : Bool} (hc : aev (lk st.T) c = some (.bool b)) (h1 : b = true → Ev P nt x st post) (h2 : b = false → Ev P nt y st post) : Ev P nt (.cond c x y) st post := by
  cases b with
  | true => exact .cond_true hc rfl (h1 rfl)
  | false => exact .cond_false hc rfl (h2 rfl)
theorem Ev.skip (h : post .normal st) : Ev P nt .skip st post := fun E S n0 a w hn hR => wp_skip ⟨st, E, ⟨hn, h⟩, fun _ _ => rfl, hR, Fr.refl _ _⟩
theorem Ev.exit {id : Nat} (h : post (.exit id) st) : Ev P nt (.exit id) st post := fun E S n0 a w hn hR => wp_exit ⟨st, E, ⟨hn, h⟩, fun _ _ => rfl, hR, Fr.refl _ _⟩
theorem Ev.ret (h : post .ret st) : Ev P nt .ret st post := fun E S n0 a w hn hR => wp_ret ⟨st, E, ⟨hn, h⟩, fun _ _ => rfl, hR, Fr.refl _ _⟩
theorem Ev.block {id : Nat} {c : Code} (h : Ev P nt c st (inA id post)) : Ev P nt (.block id c) st post := by
  intro E S n0 a w hn hR
  refine wp_block (wp_mono (h E S n0 a w hn hR) fun e a' w' hD => ?_)
  obtain ⟨st', E', ⟨hn', h1⟩, h2⟩ := hD
  cases e with
  | exit id' =>
    unfold Exit.inBlock
    unfold inA at h1
    by_cases e : id' = id
    · simp only [e, if_true] at h1 ⊢; exact ⟨st', E', ⟨hn', h1⟩, h2⟩
    · simp only [e, if_false] at h1 ⊢; exact ⟨st', E', ⟨hn', h1⟩, h2⟩
  | _ => exact ⟨st', E', ⟨hn', h1⟩, h2⟩
theorem wp_loop_ix {c : Code} {ι : Type} {Q : Exit → Act → World → Prop} (I : ι → Act → World → Prop) (μ : ι → Nat)
    (round : ∀ i a w, I i a w → c.wp P (Exit.then (fun a' w' => ∃ j, μ j < μ i ∧ I j a' w') Q) a w) (i : ι) (a : Act) (w : World) (h0 : I i a w) : (Code.loop c).wp P Q a w := by
  intro b k cs
  have key : ∀ n i a w, μ i = n → I i a w → ∃ e a' w', Q e a' w' ∧ Arrives P (lone (b.at a (.code c :: .inLoop c :: k)) cs w) b k cs e a' w' := by
    intro n
    induction n using Nat.strongRecOn with
    | _ n ih =>
      intro i a w hn hI
      obtain ⟨e, a1, w1, hq, harr⟩ := round i a w hI b (.inLoop c :: k) cs
      cases e with
      | normal =>
        obtain ⟨j, hlt, hj⟩ := hq
        obtain ⟨e2, a2, w2, hq2, harr2⟩ := ih (μ j) (hn ▸ hlt) j a1 w1 rfl hj
        exact ⟨e2, a2, w2, hq2, .of_steps (Steps.trans harr (.one step_inLoop)) harr2⟩
      | exit id => exact ⟨_, a1, w1, hq, .pass (x := .inLoop c) rfl (fun _ _ => .inl (by simp)) harr⟩
      | goto l => exact ⟨_, a1, w1, hq, .pass (x := .inLoop c) rfl (fun _ _ => .inl (by simp)) harr⟩
      | ret => exact ⟨_, a1, w1, hq, .pass (x := .inLoop c) rfl (fun _ _ => .inl (by simp)) harr⟩
      | panic ch => exact ⟨_, a1, w1, hq, .pass (x := .inLoop c) rfl (fun _ _ => .inl (by simp)) harr⟩
      | outgrown => exact ⟨_, a1, w1, hq, .pass (x := .inLoop c) rfl (fun _ _ => .inl (by simp)) harr⟩
  obtain ⟨e, a', w', hq, harr⟩ := key _ i a w rfl h0
  exact ⟨e, a', w', hq, .of_steps (.one step_loop) harr⟩
/-- What st says, st2 says in other names, or less. -/
def StLe (nt : Nat) (st st2 : St) : Prop := 1000 ≤ st2.nx ∧ ∀ E S n0 a w, RS E S n0 nt st a w → ∃ E2, (∀ b, b < 1000 → E2 b = E b) ∧ RS E2 S n0 nt st2 a w
theorem StLe.refl (h : 1000 ≤ st.nx) : StLe nt st st := ⟨h, fun E _ _ _ _ hR => ⟨E, fun _ _ => rfl, hR⟩⟩
theorem Ev.weak {c : Code} {st2 : St} (h : StLe nt st st2) (h2 : Ev P nt c st2 post) : Ev P nt c st post := by
  intro E S n0 a w _ hR
  obtain ⟨E2, hE, hR2⟩ := h.2 E S n0 a w hR
  exact wp_mono (h2 E2 S n0 a w h.1 hR2) fun e a' w' hD => Done.trans hE (Fr.refl _ _) hD
/-- A loop: at every round's head the state is one of I. -/
theorem Ev.loop {c : Code} {ι : Type} (I : ι → St) (μ : ι → Nat) (i0 : ι) (h0 : StLe nt st (I i0))
    (round : ∀ i, Ev P nt c (I i) (thenA (fun st' => ∃ j, μ j < μ i ∧ StLe nt st' (I j)) post)) : Ev P nt (.loop c) st post := by
  refine .weak h0 ?_
  intro E S n0 a w hn0 hR
  refine wp_loop_ix (fun i a' w' => 1000 ≤ (I i).nx ∧ ∃ E', (∀ b, b < 1000 → E' b = E b) ∧ RS E' S n0 nt (I i) a' w' ∧ Fr S w w') μ ?_ i0 a w ⟨hn0, E, fun _ _ => rfl, hR, Fr.refl _ _⟩
  rintro i a1 w1 ⟨hn1, E1, hE1, hR1, hF1⟩
  refine wp_mono (round i E1 S n0 a1 w1 hn1 hR1) fun e a' w' hD => ?_
  cases e with
  | normal =>
    obtain ⟨st', E', ⟨_, j, hj, hle⟩, h2, h3, h4⟩ := hD
    obtain ⟨E2, hE2, hR2⟩ := hle.2 E' S n0 a' w' h3
    exact ⟨j, hj, hle.1, E2, fun b hb => (hE2 b hb).trans ((h2 b hb).trans (hE1 b hb)), hR2, hF1.trans h4⟩
  | _ => exact Done.trans hE1 hF1 hD
/-- Old names to new ones, out of a list of pairs (new, old). -/
def back (L : List (Nat × Nat)) (b : Nat) : Nat := match Nat.blt b 1000 with
  | true => b
  | false => match lk (L.map fun p => (p.2, p.1)) b with
    | some c => c
    | none => 0
def nmOk (L : List (Nat × Nat)) : List Nat → Bool
  | [] => true
  | b :: r => (match Nat.blt b 1000 with
    | true => true
    | false => match lk L (back L b) with
      | some b' => Nat.beq b' b && Nat.ble 1000 (back L b)
      | none => false) && nmOk L r
def TLe (f : Nat → Option AV) (L : List (Nat × Nat)) : List (Nat × AV) → Prop
  | [] => True
  | (t, v2) :: r => (∃ v, f t = some v ∧ v.ren (back L) = v2 ∧ nmOk L v.names = true) ∧ TLe f L r
def src (L : List (Nat × Nat)) (c : Nat) : Option Nat := match Nat.blt c 1000 with
  | true => some c
  | false => lk L c
def HLe (F : Hp) (L : List (Nat × Nat)) : List (Nat × Option ABlk) → Prop
  | [] => True
  | (_, none) :: r => HLe F L r
  | (c, some k2) :: r => (∃ b k, src L c = some b ∧ F b = some k ∧ k.c.ren (back L) = k2.c ∧ k.elem = k2.elem ∧ (k2.own = true → k.own = true) ∧ nmOk L k.c.names = true) ∧ HLe F L r
def LOk (L : List (Nat × Nat)) (nx : Nat) : Bool := L.all (fun p => Nat.ble 1000 p.1 && Nat.ble 1000 p.2 && Nat.blt p.1 nx) && decide (L.map Prod.snd).Nodup
theorem lk_mem {α : Type} {l : List (Nat × α)} {n : Nat} {v : α} (h : lk l n = some v) : (n, v) ∈ l := by
  induction l with
  | nil => cases h
  | cons p l ih =>
    obtain ⟨k, u⟩ := p
    simp only [lk] at h
    split at h
    · rename_i e; injection h with h; subst h; rw [Nat.eq_of_beq_eq_true e]; exact List.mem_cons_self
    · exact List.mem_cons_of_mem _ (ih h)
theorem hget_mem {l : List (Nat × Option ABlk)} {n : Nat} {k : ABlk} (h : hget l n = some k) : (n, some k) ∈ l := by
  simp only [hget, upd] at h
  cases hl : lk l n with
  | none => rw [hl] at h; cases h
  | some r => rw [hl] at h; subst h; exact lk_mem hl
theorem nmOk_spec {L : List (Nat × Nat)} {E : Emb} : ∀ {ns : List Nat}, nmOk L ns = true → ∀ b ∈ ns, ∀ p, E b = some p → (match src L (back L b) with | some c => E c | none => none) = some p
  | [], _, b, hb => by cases hb
  | n :: r, h, b, hb => by
    simp only [nmOk, Bool.and_eq_true] at h
    rcases List.mem_cons.1 hb with rfl | hb
    · intro p hp
      have h1 := h.1
      cases hlt : Nat.blt b 1000 with
      | true => simp only [back, hlt, src]; exact hp
      | false =>
        simp only [hlt] at h1
        cases hl : lk L (back L b) with
        | none => rw [hl] at h1; cases h1
        | some b' =>
          rw [hl] at h1
          simp only [Bool.and_eq_true] at h1
          have e := Nat.eq_of_beq_eq_true h1.1
          subst e
          have h2 : Nat.blt (back L b') 1000 = false := by
            have := Nat.le_of_ble_eq_true h1.2
            cases hq : Nat.blt (back L b') 1000 with
            | false => rfl
            | true => have := blt_true hq; omega
          simp only [src, h2, hl]
          exact hp
    · exact nmOk_spec h.2 b hb
theorem TLe.spec {f : Nat → Option AV} {L : List (Nat × Nat)} : ∀ {l : List (Nat × AV)}, TLe f L l → ∀ t v2, (t, v2) ∈ l → ∃ v, f t = some v ∧ v.ren (back L) = v2 ∧ nmOk L v.names = true
  | [], _, _, _, h => by cases h
  | (t', v') :: r, h, t, v2, hm => by
    rcases List.mem_cons.1 hm with e | hm
    · injection e with e1 e2; subst e1; subst e2; exact h.1
    · exact TLe.spec h.2 t v2 hm
theorem HLe.spec {F : Hp} {L : List (Nat × Nat)} : ∀ {l : List (Nat × Option ABlk)}, HLe F L l → ∀ c k2, (c, some k2) ∈ l →
    ∃ b k, src L c = some b ∧ F b = some k ∧ k.c.ren (back L) = k2.c ∧ k.elem = k2.elem ∧ (k2.own = true → k.own = true) ∧ nmOk L k.c.names = true
  | [], _, _, _, h => by cases h
  | (c', none) :: r, h, c, k2, hm => by
    rcases List.mem_cons.1 hm with e | hm
    · injection e with _ e2; cases e2
    · exact HLe.spec (l := r) h c k2 hm
  | (c', some k') :: r, h, c, k2, hm => by
    rcases List.mem_cons.1 hm with e | hm
    · injection e with e1 e2; injection e2 with e2; subst e1; subst e2; exact h.1
    · exact HLe.spec h.2 c k2 hm
theorem lk_inj {L : List (Nat × Nat)} (h : (L.map Prod.snd).Nodup) {c c' b : Nat} (h1 : lk L c = some b) (h2 : lk L c' = some b) : c = c' := by
  induction L with
  | nil => cases h1
  | cons p L ih =>
    obtain ⟨k, u⟩ := p
    simp only [List.map_cons, List.nodup_cons] at h
    simp only [lk] at h1 h2
    split at h1
    · rename_i e1; injection h1 with h1; subst h1
      split at h2
      · rename_i e2; rw [← Nat.eq_of_beq_eq_true e1, ← Nat.eq_of_beq_eq_true e2]
      · exact absurd (List.mem_map.2 ⟨_, lk_mem h2, rfl⟩) h.1
    · split at h2
      · injection h2 with h2; subst h2
        exact absurd (List.mem_map.2 ⟨_, lk_mem h1, rfl⟩) h.1
      · exact ih h.2 h1 h2
/-- Less is said, in other names: L pairs the new names with the old ones. -/
theorem StLe.mk {st2 : St} (L : List (Nat × Nat)) (hL : LOk L st2.nx = true) (hn : Nat.ble 1000 st2.nx = true) (hT : TLe (lk st.T) L st2.T) (hH : HLe (hget st.H) L st2.H) : StLe nt st st2 := by
  simp only [LOk, Bool.and_eq_true, List.all_eq_true, decide_eq_true_eq] at hL
  obtain ⟨hL1, hL2⟩ := hL
  have hsrc : ∀ c b, src L c = some b → (c < 1000 ∧ b = c) ∨ (1000 ≤ c ∧ 1000 ≤ b ∧ lk L c = some b) := fun c b h => by
    unfold src at h
    split at h
    · rename_i e; injection h with h; exact .inl ⟨blt_true e, h.symm⟩
    · have := hL1 _ (lk_mem h)
      exact .inr ⟨Nat.le_of_ble_eq_true this.1.1, Nat.le_of_ble_eq_true this.1.2, h⟩
  refine ⟨Nat.le_of_ble_eq_true hn, fun E S n0 a w hR => ?_⟩
  refine ⟨fun c => match src L c with | some b => E b | none => none, fun b hb => ?_, ?_⟩
  · have : Nat.blt b 1000 = true := Nat.ble_eq_true_of_le hb
    simp [src, this]
  · refine ⟨fun t v2 h => ?_, hR.nt, hR.df, ⟨fun c k2 h => ?_, fun c c' k2 k2' l s s' h1 h2 h3 h4 h5 => ?_, fun c k2 l s h1 h2 h3 => ?_⟩, fun b hb => ?_, fun g hg => ?_, hR.hS, hR.h0⟩
    · obtain ⟨v, h1, rfl, h3⟩ := hT.spec t v2 (lk_mem h)
      exact (hR.rt t v h1).ren fun b hb p hp => nmOk_spec h3 b hb p hp
    · obtain ⟨b, k, h1, h2, h3, h4, h5, h6⟩ := hH.spec c k2 (hget_mem h)
      obtain ⟨l, s, h7, h8⟩ := hR.rh.blk b k h2
      refine ⟨l, s, by simp only [h1]; exact h7, ?_⟩
      have := h8.ren (E' := fun c => match src L c with | some b => E b | none => none) (r := back L) (fun b hb p hp => nmOk_spec h6 b hb p hp) k2.own h5
      rw [h3, h4] at this
      exact this
    · obtain ⟨b, k, g1, g2, _, _, g5, _⟩ := hH.spec c k2 (hget_mem h1)
      obtain ⟨b', k', g1', g2', _, _, _, _⟩ := hH.spec c' k2' (hget_mem h2)
      simp only [g1] at h4
      simp only [g1'] at h5
      have e := hR.rh.inj b b' k k' l s s' g2 g2' (g5 h3) h4 h5
      subst e
      rcases hsrc c b g1 with ⟨q1, q2⟩ | ⟨q1, q2, q3⟩ <;> rcases hsrc c' b g1' with ⟨r1, r2⟩ | ⟨r1, r2, r3⟩
      · omega
      · omega
      · omega
      · exact lk_inj hL2 q3 r3
    · obtain ⟨b, k, g1, g2, _, _, g5, _⟩ := hH.spec c k2 (hget_mem h1)
      simp only [g1] at h3
      exact hR.rh.own b k l s g2 (g5 h2) h3
    · have h1 : Nat.blt b 1000 = false := by
        cases hq : Nat.blt b 1000 with
        | false => rfl
        | true => have := blt_true hq; have := Nat.le_of_ble_eq_true hn; omega
      have h2 : lk L b = none := by
        cases hl : lk L b with
        | none => rfl
        | some x => have := hL1 _ (lk_mem hl); have := blt_true this.2; simp only at this; omega
      simp [src, h1, h2]
    · have : Nat.blt g 1000 = true := Nat.ble_eq_true_of_le (by omega)
      simp only [src, this]
      exact hR.gl g hg

/-- A function called with these values, where these blocks are known, yields v, and these blocks are known then. -/
def Meets (P : Program) (f : FuncId) (args : List AV) (H0 : List (Nat × Option ABlk)) (v : AV) (H1 : List (Nat × Option ABlk)) : Prop :=
  ∀ (E : Emb) (S : Nat → Prop) (n0 : Nat) (vals : Array Value) (w : World), (∀ g, g < 500 → ∃ s, E g = some (g, s)) → (∀ b, 1000 ≤ b → E b = none) →
    args.length = vals.size → (∀ (i : Nat) x y, args[i]? = some x → vals[i]? = some y → Rel E x y) → RH E S (hget H0) w → (∀ k, n0 ≤ k → S k) → n0 ≤ w.heap.size →
    Calls P f vals w fun e w' => ∃ y E', e = .returned y ∧ (∀ b, b < 1000 → E' b = E b) ∧ Rel E' v y ∧ RH E' S (hget H1) w' ∧ Fr S w w'
def argT (i : Nat) : List AV → List (Nat × AV)
  | [] => []
  | x :: r => (i, x) :: argT (i + 1) r
theorem argT_spec : ∀ (l : List AV) (i t : Nat) (v : AV), lk (argT i l) t = some v → i ≤ t ∧ l[t - i]? = some v
  | [], _, _, _, h => by cases h
  | x :: r, i, t, v, h => by
    simp only [argT, lk] at h
    split at h
    · rename_i e; injection h with h; have := Nat.eq_of_beq_eq_true e; subst this; subst h; exact ⟨Nat.le_refl _, by simp⟩
    · obtain ⟨h1, h2⟩ := argT_spec r (i + 1) t v h
      refine ⟨by omega, ?_⟩
      rw [show t - i = (t - (i + 1)) + 1 by omega]
      simpa using h2
/-- What is returned. -/
def RetOk (P : Program) (fn : Func) (nt : Nat) (v : AV) (H1 : List (Nat × Option ABlk)) (e : Exit) (st : St) : Prop :=
  (e = .ret ∨ e = .normal) ∧ (∀ b k, hget H1 b = some k → hget st.H b = some k) ∧
    ∀ E S n0 a w, RS E S n0 nt st a w → ∃ y, (results fn a.tmps).run P w = .ok y w ∧ Rel E v y
theorem meets_of_ev {f : FuncId} {fn : Func} {c : Code} {args : List AV} {H0 H1 : List (Nat × Option ABlk)} {v : AV} (hf : P.funcs[f]? = some fn) (hb : fn.body = some c) (hnt : fn.ntmps = nt) (hle : args.length ≤ nt)
    (h : Ev P nt c ⟨argT 0 args, H0, 1000⟩ (RetOk P fn nt v H1)) : Meets P f args H0 v H1 := by
  intro E S n0 vals w hg hfr hl hr hH hS h0
  refine calls_of_wp hf hb (wp_mono (h E S n0 _ w (Nat.le_refl _) ⟨fun t u ht => ?_, ?_, rfl, hH, hfr, hg, hS, h0⟩) fun e a' w' hD => ?_)
  · obtain ⟨_, h2⟩ := argT_spec args 0 t u ht
    rw [Nat.sub_zero] at h2
    have hlt : t < vals.size := by rw [← hl]; exact (List.getElem?_eq_some_iff.1 h2).1
    have e : (vals ++ Array.replicate (fn.ntmps - vals.size) undef).getD t undef = vals[t] := by
      rw [Array.getD_eq_getD_getElem?, Array.getElem?_append_left hlt, Array.getElem?_eq_getElem hlt]; rfl
    show Rel E u ((vals ++ Array.replicate (fn.ntmps - vals.size) undef).getD t undef)
    rw [e]
    exact hr t u _ h2 (Array.getElem?_eq_getElem hlt)
  · show (vals ++ Array.replicate (fn.ntmps - vals.size) undef).size = nt
    simp only [Array.size_append, Array.size_replicate]; omega
  · obtain ⟨st', E', ⟨_, h1, h2, h3⟩, h4, h5, h6⟩ := hD
    obtain ⟨y, hy, hv⟩ := h3 E' S n0 a' w' h5
    have hB : bodyPost P fn (fun e w' => ∃ y E', e = .returned y ∧ (∀ b, b < 1000 → E' b = E b) ∧ Rel E' v y ∧ RH E' S (hget H1) w' ∧ Fr S w w') .ret a' w' :=
      ⟨h5.df, y, hy, y, E', rfl, h4, hv, h5.rh.less h2, h6⟩
    rcases h1 with rfl | rfl <;> exact hB
theorem ret1 {fn : Func} {t : Tmp} {v : AV} {H1 : List (Nat × Option ABlk)} {e : Exit} (hr : fn.results = #[.tmp t]) (he : e = .ret ∨ e = .normal) (hv : lk st.T t = some v) (hH : ∀ b k, hget H1 b = some k → hget st.H b = some k) : RetOk P fn nt v H1 e st :=
  ⟨he, hH, fun _ _ _ a w hR => ⟨_, results_tmp hr a.tmps P w, hR.rt t v hv⟩⟩
theorem ret2 {fn : Func} {t u : Tmp} {v1 v2 : AV} {H1 : List (Nat × Option ABlk)} {e : Exit} (hr : fn.results = #[.tmp t, .tmp u]) (he : e = .ret ∨ e = .normal) (hv : lk st.T t = some v1) (hu : lk st.T u = some v2) (hH : ∀ b k, hget H1 b = some k → hget st.H b = some k) : RetOk P fn nt (.tup [v1, v2]) H1 e st :=
  ⟨he, hH, fun _ _ _ a w hR => ⟨_, results_tmp2 hr a.tmps P w, .tup _ _ rfl fun i x y hx hy => by
    match i, hx, hy with
    | 0, hx, hy => simp at hx hy; subst hx; subst hy; have := hR.rt t v1 hv; simpa using this
    | 1, hx, hy => simp at hx hy; subst hx; subst hy; have := hR.rt u v2 hu; simpa using this
    | i + 2, hx, _ => simp at hx⟩⟩
/-- Known blocks, one by one. -/
def HSub (F : Hp) : List (Nat × Option ABlk) → Prop
  | [] => True
  | (_, none) :: r => HSub F r
  | (b, some k) :: r => F b = some k ∧ HSub F r
theorem HSub.spec {F : Hp} : ∀ {l : List (Nat × Option ABlk)}, HSub F l → ∀ b k, hget l b = some k → F b = some k := by
  intro l h b k hb
  have hm := hget_mem hb
  clear hb
  induction l with
  | nil => cases hm
  | cons p l ih =>
    obtain ⟨c, r⟩ := p
    cases r with
    | none =>
      rcases List.mem_cons.1 hm with e | hm
      · injection e with _ e2; cases e2
      · exact ih h hm
    | some k' =>
      rcases List.mem_cons.1 hm with e | hm
      · injection e with e1 e2; injection e2 with e2; subst e1; subst e2; exact h.1
      · exact ih h.2 hm
theorem hsub_nil {F : Hp} : ∀ b k, hget [] b = some k → F b = some k := fun _ _ h => by cases h

/-! Lists of operations, in the text's order. -/
theorem EvL.nil {ops : List Oper} {post : St → Prop} (h : post st) : EvL P nt ops [] st post :=
  fun E _ _ a w _ hn hR hQ => wpList_nil (hQ st E a w hn h (fun _ _ => rfl) hR (Fr.refl _ _))
theorem put_getD {a : Act} {d : Tmp} {y : Value} {t : Nat} (hd : d < a.tmps.size) : (a.put (some d) y).tmps.getD t undef = if d = t then y else a.tmps.getD t undef := by
  simp only [Act.put, Array.getD_eq_getD_getElem?, Array.getElem?_setIfInBounds]
  by_cases e : d = t
  · subst e; simp [hd]
  · simp [e]
theorem RS.put {E : Emb} {S : Nat → Prop} {n0 : Nat} {a : Act} {w : World} (h : RS E S n0 nt st a w) {d : Tmp} (hd : d < nt) {v : AV} {y : Value} (hv : Rel E v y) : RS E S n0 nt ⟨(d, v) :: st.T, st.H, st.nx⟩ (a.put (some d) y) w := by
  refine ⟨fun t u ht => ?_, ?_, h.df, h.rh, h.fr, h.gl, h.hS, h.h0⟩
  · rw [put_getD (by rw [h.nt]; exact hd)]
    simp only [lk] at ht
    split at ht
    · rename_i e; injection ht with ht; subst ht; rw [if_pos (Nat.eq_of_beq_eq_true e)]; exact hv
    · rename_i e
      rw [if_neg (fun h => by subst h; simp at e)]
      exact h.rt t u ht
  · simp [Act.put, h.nt]
theorem evl_step {ops rest : List Oper} {post : St → Prop} {o : Oper} {v : AV} {U : List (Nat × Option ABlk)} {wr : Bool} {d : Tmp} {T' : List (Nat × AV)} {nx' : Nat}
    (hw : ∀ (E : Emb) (S : Nat → Prop) (n0 : Nat) (a : Act) (w : World), RS E S n0 nt st a w → Region.wanted o (yielded ops.toArray a.tmps) = true)
    (hd : o.dst = some d ∧ T' = (d, v) :: st.T ∧ d < nt ∨ o.dst = none ∧ T' = st.T) (hnx : st.nx ≤ nx' ∧ ∀ b, nx' ≤ b → b < st.nx + 8 → lk U b = none)
    (h : OpSem P (lk st.T) (hget st.H) o st.nx wr v U) (hr : EvL P nt ops rest ⟨T', U ++ st.H, nx'⟩ post) : EvL P nt ops (o :: rest) st post := by
  intro E S n0 a w Q hn hR hQ
  unfold wpList
  rw [if_pos (hw E S n0 a w hR)]
  refine .inl ?_
  refine h E S n0 (hget st.H) a w hR.hS hR.h0 hn hR.gl (fun _ => rfl) (fun _ _ h => h) (fun x _ u hu => hR.aev x u hu) hR.rh (fun b hb _ => hR.fr b hb) _ _ fun y w' E' hE hv hH hF => ?_
  have hle : ∀ b p, E b = some p → E' b = some p := fun b p hp => by
    rw [hE b (.inr (fun hb => by rw [hR.fr b hb.1] at hp; cases hp))]; exact hp
  have base : RS E' S n0 nt ⟨st.T, U ++ st.H, nx'⟩ a w' := by
    refine ⟨fun t u ht => (hR.rt t u ht).mono hle, hR.nt, hR.df, by rw [← upd_hget]; exact hH, fun b hb => ?_, fun g hg => (hR.gl g hg).imp fun s hs => hle _ _ hs, hR.hS, Nat.le_trans hR.h0 hF.size⟩
    have hb' : nx' ≤ b := hb
    by_cases hq : b < st.nx + 8
    · rw [hE b (.inl (hnx.2 b hb' hq))]; exact hR.fr b (by omega)
    · rw [hE b (.inr (by omega))]; exact hR.fr b (by omega)
  have hR' : RS E' S n0 nt ⟨T', U ++ st.H, nx'⟩ (a.put o.dst y) w' := by
    rcases hd with ⟨e, rfl, hlt⟩ | ⟨e, rfl⟩
    · rw [e]; exact base.put hlt hv
    · rw [e]; exact base
  have hlow : ∀ b, b < 1000 → E' b = E b := fun b hb => hE b (.inr (by omega))
  exact hr E' S n0 (a.put o.dst y) w' Q (Nat.le_trans hn hnx.1) hR' fun st' E'' a'' w'' h1 h2 h3 h4 h5 => hQ st' E'' a'' w'' h1 h2 (fun b hb => (h3 b hb).trans (hlow b hb)) h4 (hF.trans h5)
section
variable {ops rest : List Oper} {post : St → Prop} {op : Op} {v : AV} {wr : Bool} {d : Tmp} {ty : TypeId} {ps : String} {af : Array Edge} {U : List (Nat × Option ABlk)} {gd : Option (Nat × Bool)}
/-- Is the operation wanted: its guard, as it is known. -/
def Wants (ops : List Oper) (T : List (Nat × AV)) : Option (Nat × Bool) → Prop
  | none => True
  | some (j, want) => ∃ g, (ops[j]?).bind (·.dst) = some g ∧ lk T g = some (.bool want)
def WantsNo (ops : List Oper) (T : List (Nat × AV)) : Option (Nat × Bool) → Prop
  | none => False
  | some (j, want) => ∃ g, (ops[j]?).bind (·.dst) = some g ∧ lk T g = some (.bool (!want))
theorem yielded_of {a : Act} {E : Emb} {S : Nat → Prop} {n0 : Nat} {w : World} (hR : RS E S n0 nt st a w) {j g : Nat} {b : Bool} (h1 : (ops[j]?).bind (·.dst) = some g) (h2 : lk st.T g = some (.bool b)) : yielded ops.toArray a.tmps j = some b := by
  have h3 := (hR.rt g _ h2).bool_inv
  have h4 : a.tmps[g]? = some (.bool b) := by
    rw [Array.getD_eq_getD_getElem?] at h3
    cases hq : a.tmps[g]? with
    | none => rw [hq] at h3; cases h3
    | some y => rw [hq] at h3; simp at h3; rw [h3]
  unfold yielded
  rw [List.getElem?_toArray, h1]
  simp [h4]
theorem Wants.ok {o : Oper} (h : Wants ops st.T o.guard) (E : Emb) (S : Nat → Prop) (n0 : Nat) (a : Act) (w : World) (hR : RS E S n0 nt st a w) : Region.wanted o (yielded ops.toArray a.tmps) = true := by
  unfold Region.wanted
  unfold Wants at h
  split
  · rfl
  · rename_i j want hg
    rw [hg] at h
    obtain ⟨g, h1, h2⟩ := h
    rw [yielded_of hR h1 h2]; simp
theorem WantsNo.ok {o : Oper} (h : WantsNo ops st.T o.guard) (E : Emb) (S : Nat → Prop) (n0 : Nat) (a : Act) (w : World) (hR : RS E S n0 nt st a w) : Region.wanted o (yielded ops.toArray a.tmps) = false := by
  unfold Region.wanted
  unfold WantsNo at h
  split
  · rename_i hg; rw [hg] at h; exact h.elim
  · rename_i j want hg
    rw [hg] at h
    obtain ⟨g, h1, h2⟩ := h
    rw [yielded_of hR h1 h2]; simp
/-- An operation that makes no block. -/
theorem EvL.q (h : OpSem P (lk st.T) (hget st.H) ⟨some d, op, ty, ps, af, gd⟩ st.nx true v []) (hg : Wants ops st.T gd) (hd : Nat.blt d nt = true) (hr : EvL P nt ops rest ⟨(d, v) :: st.T, st.H, st.nx⟩ post) :
    EvL P nt ops (⟨some d, op, ty, ps, af, gd⟩ :: rest) st post :=
  evl_step (Wants.ok hg) (.inl ⟨rfl, rfl, blt_true hd⟩) ⟨Nat.le_refl _, fun _ _ _ => rfl⟩ h hr
/-- An operation that writes, and yields nothing. -/
theorem EvL.w (h : OpSem P (lk st.T) (hget st.H) ⟨none, op, ty, ps, af, gd⟩ st.nx true v U) (hg : Wants ops st.T gd) (hU : (U.all fun p => Nat.blt p.1 st.nx) = true) (hr : EvL P nt ops rest ⟨st.T, U ++ st.H, st.nx⟩ post) :
    EvL P nt ops (⟨none, op, ty, ps, af, gd⟩ :: rest) st post :=
  evl_step (d := 0) (Wants.ok hg) (.inr ⟨rfl, rfl⟩) ⟨Nat.le_refl _, fun b h1 _ => by
    cases hl : lk U b with
    | none => rfl
    | some r => have := blt_true (List.all_eq_true.1 hU _ (lk_mem hl)); simp only at this; omega⟩ h hr
/-- An operation that makes blocks. -/
theorem EvL.a (h : OpSem P (lk st.T) (hget st.H) ⟨some d, op, ty, ps, af, gd⟩ st.nx true v U) (hg : Wants ops st.T gd) (hd : Nat.blt d nt = true) (hr : EvL P nt ops rest ⟨(d, v) :: st.T, U ++ st.H, st.nx + 8⟩ post) :
    EvL P nt ops (⟨some d, op, ty, ps, af, gd⟩ :: rest) st post :=
  evl_step (Wants.ok hg) (.inl ⟨rfl, rfl, blt_true hd⟩) ⟨Nat.le_add_right _ _, fun b h1 h2 => by omega⟩ h hr
/-- An operation whose guard says no. -/
theorem EvL.no (hg : WantsNo ops st.T gd) (hd : Nat.blt d nt = true) (hr : EvL P nt ops rest ⟨(d, .val undef) :: st.T, st.H, st.nx⟩ post) :
    EvL P nt ops (⟨some d, op, ty, ps, af, gd⟩ :: rest) st post := by
  intro E S n0 a w Q hn hR hQ
  unfold wpList
  rw [if_neg (by rw [hg.ok E S n0 a w hR]; simp)]
  exact hr E S n0 _ w Q hn (hR.put (blt_true hd) (.val _)) hQ
end
end
end Go.Proofs.YtaenhghihhhikaaDoor
