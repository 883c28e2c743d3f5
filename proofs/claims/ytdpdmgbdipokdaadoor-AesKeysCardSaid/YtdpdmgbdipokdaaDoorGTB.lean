/-
  Texts of this claim.
-/
import Derived.Test.YtdpdmgbdipokdaaDoorGTA
namespace Go.Proofs.YtdpdmgbdipokdaaDoor
open Go.RowKit

/-- The called function's names for the caller's blocks (L: called name, caller's name). -/
def backC (L : List (Nat × Nat)) (b : Nat) : Nat := match Nat.blt b 500 with
  | true => b
  | false => match lk (L.map fun p => (p.2, p.1)) b with
    | some c => c
    | none => 0
def srcC (L : List (Nat × Nat)) (c : Nat) : Option Nat := match Nat.blt c 500 with
  | true => some c
  | false => lk L c
def nmOkC (L : List (Nat × Nat)) : List Nat → Bool
  | [] => true
  | b :: r => (match Nat.blt b 500 with
    | true => true
    | false => match lk L (backC L b) with
      | some b' => Nat.beq b' b && Nat.ble 500 (backC L b)
      | none => false) && nmOkC L r
def ArgsOk (T : Nat → Option AV) (L : List (Nat × Nat)) : List Operand → List AV → Prop
  | [], [] => True
  | x :: xs, a :: as => (∃ u, aev T x = some u ∧ u.ren (backC L) = a ∧ nmOkC L u.names = true) ∧ ArgsOk T L xs as
  | _, _ => False
def HLeC (F : Hp) (L : List (Nat × Nat)) : List (Nat × Option ABlk) → Prop
  | [] => True
  | (_, none) :: r => HLeC F L r
  | (c, some k2) :: r => (∃ b k, srcC L c = some b ∧ F b = some k ∧ k.c.ren (backC L) = k2.c ∧ ElemLe k k2 ∧ (k2.own = true → k.own = true) ∧ nmOkC L k.c.names = true) ∧ HLeC F L r
def LOkC (L : List (Nat × Nat)) : Bool := L.all (fun p => Nat.ble 500 p.1 && Nat.blt p.1 1000 && Nat.ble 500 p.2) && decide (L.map Prod.snd).Nodup
/-- The caller's names for the called function's blocks (N: caller's new name, called function's new name). -/
def fwd (L N : List (Nat × Nat)) (c : Nat) : Nat := match srcC L c with
  | some b => b
  | none => match lk (N.map fun p => (p.2, p.1)) c with
    | some b => b
    | none => 0
def nmOkF (L N : List (Nat × Nat)) : List Nat → Bool
  | [] => true
  | c :: r => (match srcC L c with
    | some _ => Nat.blt c 1000
    | none => match lk N (fwd L N c) with
      | some c' => Nat.beq c' c
      | none => false) && nmOkF L N r
/-- The caller's names that are given anew: each has what the called function's block has. -/
def UOk (L N : List (Nat × Nat)) (H0 H1 : List (Nat × Option ABlk)) : List (Nat × Option ABlk) → Prop
  | [] => True
  | (_, none) :: r => UOk L N H0 H1 r
  | (b, some k') :: r => (∃ c k, hget H1 c = some k ∧ k' = ⟨k.c.ren (fwd L N), k.elem, k.own⟩ ∧ (k.own || (lk L c).isSome) = true ∧ nmOkF L N k.c.names = true ∧
      (lk N b = some c ∨ (lk L c = some b ∧ ∃ k0, hget H0 c = some k0 ∧ k0.own = true))) ∧ UOk L N H0 H1 r
def Cov (L : List (Nat × Nat)) (U : List (Nat × Option ABlk)) : List (Nat × Option ABlk) → Prop
  | [] => True
  | (_, none) :: r => Cov L U r
  | (c, some k) :: r => (k.own = true → ∃ b q, lk L c = some b ∧ lk U b = some q) ∧ Cov L U r
def NOk (N : List (Nat × Nat)) (nm : Nat) (U : List (Nat × Option ABlk)) : Bool := (N.all fun p => Nat.ble nm p.1 && Nat.blt p.1 (nm + 8) && Nat.ble 1000 p.2 && (lk U p.1).isSome) && decide (N.map Prod.snd).Nodup
theorem nmOkC_spec {L : List (Nat × Nat)} {E : Emb} : ∀ {ns : List Nat}, nmOkC L ns = true → ∀ b ∈ ns, ∀ p, E b = some p → (match srcC L (backC L b) with | some c => E c | none => none) = some p
  | [], _, b, hb => by cases hb
  | n :: r, h, b, hb => by
    simp only [nmOkC, Bool.and_eq_true] at h
    rcases List.mem_cons.1 hb with rfl | hb
    · intro p hp
      have h1 := h.1
      cases hlt : Nat.blt b 500 with
      | true => simp only [backC, hlt, srcC]; exact hp
      | false =>
        simp only [hlt] at h1
        cases hl : lk L (backC L b) with
        | none => rw [hl] at h1; cases h1
        | some b' =>
          rw [hl] at h1
          simp only [Bool.and_eq_true] at h1
          have e := Nat.eq_of_beq_eq_true h1.1
          subst e
          have h2 : Nat.blt (backC L b') 500 = false := by
            have := Nat.le_of_ble_eq_true h1.2
            cases hq : Nat.blt (backC L b') 500 with
            | false => rfl
            | true => have := blt_true hq; omega
          simp only [srcC, h2, hl]
          exact hp
    · exact nmOkC_spec h.2 b hb
theorem HLeC.spec {F : Hp} {L : List (Nat × Nat)} : ∀ {l : List (Nat × Option ABlk)}, HLeC F L l → ∀ c k2, (c, some k2) ∈ l →
    ∃ b k, srcC L c = some b ∧ F b = some k ∧ k.c.ren (backC L) = k2.c ∧ ElemLe k k2 ∧ (k2.own = true → k.own = true) ∧ nmOkC L k.c.names = true
  | [], _, _, _, h => by cases h
  | (c', none) :: r, h, c, k2, hm => by
    rcases List.mem_cons.1 hm with e | hm
    · injection e with _ e2; cases e2
    · exact HLeC.spec (l := r) h c k2 hm
  | (c', some k') :: r, h, c, k2, hm => by
    rcases List.mem_cons.1 hm with e | hm
    · injection e with e1 e2; injection e2 with e2; subst e1; subst e2; exact h.1
    · exact HLeC.spec h.2 c k2 hm
theorem UOk.spec {L N : List (Nat × Nat)} {H0 H1 : List (Nat × Option ABlk)} : ∀ {l : List (Nat × Option ABlk)}, UOk L N H0 H1 l → ∀ b k', (b, some k') ∈ l →
    ∃ c k, hget H1 c = some k ∧ k' = ⟨k.c.ren (fwd L N), k.elem, k.own⟩ ∧ (k.own || (lk L c).isSome) = true ∧ nmOkF L N k.c.names = true ∧ (lk N b = some c ∨ (lk L c = some b ∧ ∃ k0, hget H0 c = some k0 ∧ k0.own = true))
  | [], _, _, _, h => by cases h
  | (c', none) :: r, h, c, k2, hm => by
    rcases List.mem_cons.1 hm with e | hm
    · injection e with _ e2; cases e2
    · exact UOk.spec (l := r) h c k2 hm
  | (c', some k') :: r, h, c, k2, hm => by
    rcases List.mem_cons.1 hm with e | hm
    · injection e with e1 e2; injection e2 with e2; subst e1; subst e2; exact h.1
    · exact UOk.spec h.2 c k2 hm
theorem Cov.spec {L : List (Nat × Nat)} {U : List (Nat × Option ABlk)} : ∀ {l : List (Nat × Option ABlk)}, Cov L U l → ∀ c k, (c, some k) ∈ l → k.own = true → ∃ b q, lk L c = some b ∧ lk U b = some q
  | [], _, _, _, h => by cases h
  | (c', none) :: r, h, c, k2, hm => by
    rcases List.mem_cons.1 hm with e | hm
    · injection e with _ e2; cases e2
    · exact Cov.spec (l := r) h c k2 hm
  | (c', some k') :: r, h, c, k2, hm => by
    rcases List.mem_cons.1 hm with e | hm
    · injection e with e1 e2; injection e2 with e2; subst e1; subst e2; exact h.1
    · exact Cov.spec h.2 c k2 hm
theorem ArgsOk.spec {T : Nat → Option AV} {L : List (Nat × Nat)} : ∀ {xs : List Operand} {as : List AV}, ArgsOk T L xs as → as.length = xs.length ∧
    ∀ (i : Nat) a x, as[i]? = some a → xs[i]? = some x → ∃ u, aev T x = some u ∧ u.ren (backC L) = a ∧ nmOkC L u.names = true
  | [], [], _ => ⟨rfl, fun i a x h => by simp at h⟩
  | [], _ :: _, h => h.elim
  | _ :: _, [], h => h.elim
  | x :: xs, a :: as, h => by
    obtain ⟨h1, h2⟩ := h
    obtain ⟨h3, h4⟩ := ArgsOk.spec h2
    refine ⟨by simp [h3], fun i a' x' ha hx => ?_⟩
    match i, ha, hx with
    | 0, ha, hx => simp at ha hx; subst ha; subst hx; exact h1
    | i + 1, ha, hx => exact h4 i a' x' (by simpa using ha) (by simpa using hx)
section
variable {P : Program} {T : Nat → Option AV} {H : Hp} {nm : Nat} {v v0 : AV} {d : Option Tmp} {ty : TypeId} {ps : String} {af : Array Edge} {gd : Option (Nat × Bool)}
theorem op_callO {f : FuncId} {o : Oper} {args : List AV} {H0 H1 U : List (Nat × Option ABlk)} {wr : Bool} (L N : List (Nat × Nat)) (hm : Meets P f args H0 v0 H1)
    (hex : ∀ (E : Emb) (a : Act) (w : World), (∀ x ∈ o.op.operands, ∀ u, aev T x = some u → Rel E u (a.eval x)) → ∃ vals, (execOp a.eval o).run P w = .ok (.enter f vals) w ∧ args.length = vals.size ∧ ∀ (i : Nat) q yv, args[i]? = some q → vals[i]? = some yv → ∃ u, u.ren (backC L) = q ∧ nmOkC L u.names = true ∧ Rel E u yv)
    (hL : LOkC L = true) (hN : NOk N nm U = true) (hH : HLeC H L H0) (hU : UOk L N H0 H1 U) (hC : Cov L U H0) (hv : nmOkF L N v0.names = true) :
    OpSem P T H o nm wr (v0.ren (fwd L N)) U := by
  intro E S n0 H2 a w hS hn0 hnm hgl _ hle hop hR hfr K Q hK
  simp only [LOkC, Bool.and_eq_true, List.all_eq_true, decide_eq_true_eq] at hL
  obtain ⟨hL1, hL2⟩ := hL
  simp only [NOk, List.all_eq_true, Bool.and_eq_true, decide_eq_true_eq] at hN
  obtain ⟨hN, hN2⟩ := hN
  have hLk : ∀ c b, lk L c = some b → 500 ≤ c ∧ c < 1000 ∧ 500 ≤ b := fun c b h => by
    have := hL1 _ (lk_mem h)
    exact ⟨Nat.le_of_ble_eq_true this.1.1, blt_true this.1.2, Nat.le_of_ble_eq_true this.2⟩
  have hsrc : ∀ c b, srcC L c = some b → (c < 500 ∧ b = c) ∨ (500 ≤ c ∧ c < 1000 ∧ 500 ≤ b ∧ lk L c = some b) := fun c b h => by
    unfold srcC at h
    split at h
    · rename_i e; injection h with h; exact .inl ⟨blt_true e, h.symm⟩
    · exact .inr ⟨(hLk c b h).1, (hLk c b h).2.1, (hLk c b h).2.2, h⟩
  have sinj : ∀ c c' b, srcC L c = some b → srcC L c' = some b → c = c' := fun c c' b h1 h2 => by
    rcases hsrc c b h1 with ⟨q1, q2⟩ | ⟨q1, q2, q3, q4⟩ <;> rcases hsrc c' b h2 with ⟨r1, r2⟩ | ⟨r1, r2, r3, r4⟩
    · omega
    · omega
    · omega
    · exact lk_inj hL2 q4 r4
  have hNk : ∀ b c, lk N b = some c → nm ≤ b ∧ b < nm + 8 ∧ 1000 ≤ c ∧ (lk U b).isSome = true := fun b c h => by
    have := hN _ (lk_mem h)
    exact ⟨Nat.le_of_ble_eq_true this.1.1.1, blt_true this.1.1.2, Nat.le_of_ble_eq_true this.1.2, this.2⟩
  let Ec : Emb := ⟨fun c => match srcC L c with | some b => E b | none => none, E.d⟩
  have hEc : ∀ c, Ec c = match srcC L c with | some b => E b | none => none := fun _ => rfl
  let Sc : Nat → Prop := fun l => (∃ c k s, hget H0 c = some k ∧ k.own = true ∧ Ec c = some (l, s)) ∨ w.heap.size ≤ l
  obtain ⟨vals, hrun, hlen, hargs⟩ := hex E a w hop
  -- the caller's block of a block of the called function's
  have hblk : ∀ c k2, hget H0 c = some k2 → ∃ b k, srcC L c = some b ∧ H2 b = some k ∧ k.c.ren (backC L) = k2.c ∧ ElemLe k k2 ∧ (k2.own = true → k.own = true) ∧ nmOkC L k.c.names = true := fun c k2 h => by
    obtain ⟨b, k, h1, h2, h3⟩ := hH.spec c k2 (hget_mem h)
    exact ⟨b, k, h1, hle b k h2, h3⟩
  have hlowC : (∀ b, b < 500 → ∀ p, E b = some p → Ec b = some p) ∧ E.dle Ec := ⟨fun b hb p hp => by
    have h1 : Nat.blt b 500 = true := Nat.ble_eq_true_of_le hb
    rw [hEc]; simpa [srcC, h1] using hp, fun _ _ h => h⟩
  have hRc : RH Ec Sc (hget H0) w := by
    refine ⟨fun c k2 h => ?_, fun c c' k2 k2' l s s' h1 h2 h3 h4 h5 => ?_, fun c k2 l s h1 h2 h3 => .inl ⟨c, k2, s, h1, h2, h3⟩, fun a L' s ha => ⟨(hR.deep a L' s ha).1, fun c k2 s' h1 h2 h3 => ?_⟩⟩
    · obtain ⟨b, k, g1, g2, g3, g4, g5, g6⟩ := hblk c k2 h
      obtain ⟨l, s, q1, q2⟩ := hR.blk b k g2
      refine ⟨l, s, by rw [hEc, g1]; exact q1, ?_⟩
      have := q2.ren (E' := Ec) (r := backC L) hlowC (fun b hb p hp => nmOkC_spec g6 b hb p hp) k2.own g5 g4.lose
      rw [g3, g4.elem] at this
      exact this
    · obtain ⟨b, k, g1, g2, _, _, g5, _⟩ := hblk c k2 h1
      obtain ⟨b', k', g1', g2', _, _, _, _⟩ := hblk c' k2' h2
      rw [hEc, g1] at h4
      rw [hEc, g1'] at h5
      have e := hR.inj b b' k k' l s s' g2 g2' (g5 h3) h4 h5
      subst e
      exact sinj c c' b g1 g1'
    · obtain ⟨b, k, g1, g2, _, _, g5, _⟩ := hblk c k2 h1
      rw [hEc, g1] at h3
      exact (hR.deep a L' s ha).2 b k s' g2 (g5 h2) h3
  have hcall := hm Ec Sc w.heap.size vals w (fun g hg => by
      have : Nat.blt g 500 = true := Nat.ble_eq_true_of_le (show g + 1 ≤ 500 by omega)
      rw [hEc]; simp only [srcC, this]; exact hgl g hg)
    (fun c hc => by
      have h1 : Nat.blt c 500 = false := by
        cases hq : Nat.blt c 500 with
        | false => rfl
        | true => have := blt_true hq; omega
      have h2 : lk L c = none := by
        cases hl : lk L c with
        | none => rfl
        | some x => have := hLk c x hl; omega
      rw [hEc]; simp [srcC, h1, h2])
    hlen (fun i q yv hq hy => by
      obtain ⟨u, rfl, h3, this⟩ := hargs i q yv hq hy
      exact this.ren hlowC fun b hb p hp => nmOkC_spec h3 b hb p hp)
    hRc (fun k hk => .inr hk) (Nat.le_refl _)
  unfold Oper.wp
  rw [hrun, Oper.upon_enter]
  refine hcall.mono fun ed w' hD => ?_
  obtain ⟨y, E', rfl, hpin, hrel, hR', hF⟩ := hD
  let E2 : Emb := ⟨fun b => match lk N b with | some c => E' c | none => E b, E'.d⟩
  have hE2 : ∀ b, E2 b = match lk N b with | some c => E' c | none => E b := fun _ => rfl
  have hE2old : ∀ b p, E b = some p → E2 b = some p := fun b p hp => by
    rw [hE2]
    cases hl : lk N b with
    | none => exact hp
    | some c => have := hNk b c hl; rw [hfr b this.1 this.2.1] at hp; cases hp
  have hfwd : ∀ ns, nmOkF L N ns = true → ∀ c ∈ ns, ∀ p, E' c = some p → E2 (fwd L N c) = some p := by
    intro ns
    induction ns with
    | nil => intro _ c hc; cases hc
    | cons n ns ih =>
      intro h c hc p hp
      simp only [nmOkF, Bool.and_eq_true] at h
      rcases List.mem_cons.1 hc with rfl | hc
      · have h1 := h.1
        cases hs : srcC L c with
        | some b =>
          rw [hs] at h1
          have hlt := blt_true h1
          have : E b = some p := by rw [hpin.1 c hlt, hEc, hs] at hp; exact hp
          have e : fwd L N c = b := by simp [fwd, hs]
          rw [e]; exact hE2old b p this
        | none =>
          rw [hs] at h1
          simp only at h1
          cases hl : lk N (fwd L N c) with
          | none => rw [hl] at h1; cases h1
          | some c' =>
            rw [hl] at h1
            have e := Nat.eq_of_beq_eq_true h1; subst e
            rw [hE2, hl]; exact hp
      · exact ih h.2 c hc p hp
  -- a block that is written is given anew
  have hown : ∀ b k l s, H2 b = some k → E b = some (l, s) → lk U b = none → ¬ Sc l := fun b k l s hk he hu hs => by
    obtain ⟨l', s', q1, q2⟩ := hR.blk b k hk
    rw [he] at q1; injection q1 with q1; injection q1 with q1 _; subst q1
    rcases hs with ⟨c, k2, s2, h1, h2, h3⟩ | hs
    · obtain ⟨b', q, h4, h5⟩ := hC.spec c k2 (hget_mem h1) h2
      obtain ⟨b2, k3, g1, g2, _, _, g5, _⟩ := hblk c k2 h1
      have hb2 : b2 = b' := by
        rcases hsrc c b2 g1 with ⟨r1, r2⟩ | ⟨_, _, _, r4⟩
        · have := hLk c b' h4; omega
        · rw [h4] at r4; injection r4 with r4; exact r4.symm
      subst hb2
      rw [hEc, g1] at h3
      have := hR.inj b2 b k3 k l s2 s g2 hk (g5 h2) h3 he
      subst this
      rw [hu] at h5; cases h5
    · have := q2.lt; omega
  have hSc : ∀ l, Sc l → S l := fun l hs => by
    rcases hs with ⟨c, k2, s2, h1, h2, h3⟩ | hs
    · obtain ⟨b2, k3, g1, g2, _, _, g5, _⟩ := hblk c k2 h1
      rw [hEc, g1] at h3
      exact hR.own b2 k3 l s2 g2 (g5 h2) h3
    · exact hS l (by omega)
  -- what a name given anew stands for
  have hnew : ∀ b k', lk U b = some (some k') → ∃ c k l s, hget H1 c = some k ∧ (k.own = true ∨ ∃ k0, lk L c = some b ∧ hget H0 c = some k0) ∧ k' = ⟨k.c.ren (fwd L N), k.elem, k.own⟩ ∧ nmOkF L N k.c.names = true ∧ E' c = some (l, s) ∧ E2 b = some (l, s) ∧ KAt E' k w' l s ∧ (lk N b = some c ∨ lk L c = some b) := fun b k' hu => by
    obtain ⟨c, k, h1, h2, h3, h4, h5⟩ := hU.spec b k' (lk_mem hu)
    obtain ⟨l, s, h6, h7⟩ := hR'.blk c k h1
    have h3' : k.own = true ∨ ∃ k0, lk L c = some b ∧ hget H0 c = some k0 := by
      cases ho : k.own with
      | true => exact .inl rfl
      | false =>
        right
        rw [ho] at h3
        rcases h5 with h5 | ⟨h5, k0, h9, _⟩
        · have i1 := hNk b c h5
          cases hl : lk L c with
          | none => rw [hl] at h3; cases h3
          | some x => have := hLk c x hl; omega
        · exact ⟨k0, h5, h9⟩
    refine ⟨c, k, l, s, h1, h3', h2, h4, h6, ?_, h7, h5.imp id And.left⟩
    rcases h5 with h5 | ⟨h5, _⟩
    · rw [hE2, h5]; exact h6
    · have hc := hLk c b h5
      have hs : srcC L c = some b := by
        have : Nat.blt c 500 = false := by
          cases hq : Nat.blt c 500 with
          | false => rfl
          | true => have := blt_true hq; omega
        simp only [srcC, this]; exact h5
      have h8 : E b = some (l, s) := by rw [hpin.1 c hc.2.1, hEc, hs] at h6; exact h6
      exact hE2old b _ h8
  have hupd : ∀ b k, upd U H2 b = some k → lk U b = some (some k) ∨ (lk U b = none ∧ H2 b = some k) := fun b k h => by
    simp only [upd] at h
    cases hu : lk U b with
    | none => rw [hu] at h; exact .inr ⟨rfl, h⟩
    | some q => rw [hu] at h; subst h; exact .inl rfl
  have hold : ∀ b k, H2 b = some k → lk U b = none → ∃ l s, E b = some (l, s) ∧ E2 b = some (l, s) ∧ KAt E2 k w' l s ∧ l < w.heap.size ∧ ¬ Sc l := fun b k hk hu => by
    obtain ⟨l, s, q1, q2⟩ := hR.blk b k hk
    have hn := hown b k l s hk q1 hu
    exact ⟨l, s, q1, hE2old b _ q1, q2.mono ⟨hE2old, hpin.2.dle⟩ (hF.block l q2.lt hn), q2.lt, hn⟩
  have hlow2 : (∀ b, b < 500 → ∀ p, E' b = some p → E2 b = some p) ∧ E'.dle E2 := ⟨fun b hb p hp => by
    have h1 : Nat.blt b 500 = true := Nat.ble_eq_true_of_le hb
    rw [hpin.1 b (by omega), hEc] at hp
    exact hE2old b p (by simpa [srcC, h1] using hp), fun _ _ h => h⟩
  refine hK y w' E2 (fun b hb => ?_) (fun a => (hpin.2 a).imp id fun h => ⟨h.1, hSc a h.2⟩) (hrel.ren hlow2 fun c hc p hp => hfwd _ hv c hc p hp) ⟨fun b k h => ?_, fun b b' k k' l s s' h1 h2 h3 h4 h5 => ?_, fun b k l s h1 h2 h3 => ?_, fun a L' s ha => ⟨(hR'.deep a L' s ha).1, fun b k s' h1 h2 h3 => ?_⟩⟩ (hF.mono fun k hk hs => hSc k hs)
  rotate_right 1
  · rcases hupd b k h1 with hu | ⟨hu, hk⟩
    · obtain ⟨c, kc, l1, s1, g1, _, e0, _, g5, g6, _, _⟩ := hnew b k hu
      have g2 : kc.own = true := by rw [e0] at h2; exact h2
      rw [h3] at g6; injection g6 with g6; injection g6 with e1 e2; subst e1; subst e2
      exact (hR'.deep a L' s ha).2 c kc s' g1 g2 g5
    · obtain ⟨l, s1, q1, q2, _, _, q5⟩ := hold b k hk hu
      rw [h3] at q2; injection q2 with q2; injection q2 with e1 e2; subst e1; subst e2
      rcases hpin.2 a with e | ⟨_, e⟩
      · exact (hR.deep a L' s (by rw [← ha]; exact e.symm)).2 b k s' hk h2 q1
      · exact q5 e
  · rw [hE2]
    cases hl : lk N b with
    | none => rfl
    | some c =>
      have := hNk b c hl
      rcases hb with hb | hb
      · rw [hb] at this; simp at this
      · exact absurd ⟨this.1, this.2.1⟩ hb
  · rcases hupd b k h with hu | ⟨hu, hk⟩
    · obtain ⟨c, kc, l, s, h1, h2, rfl, h4, h5, h6, h7, _⟩ := hnew b k hu
      exact ⟨l, s, h6, h7.ren hlow2 (fun c hc p hp => hfwd _ h4 c hc p hp) kc.own (fun h => h) (fun h1 h2 => by rw [h1] at h2; cases h2)⟩
    · obtain ⟨l, s, _, q2, q3, _⟩ := hold b k hk hu
      exact ⟨l, s, q2, q3⟩
  · rcases hupd b k h1 with hu | ⟨hu, hk⟩ <;> rcases hupd b' k' h2 with hu' | ⟨hu', hk'⟩
    · obtain ⟨c, kc, l1, s1, g1, _, e0, _, g5, g6, _, g8⟩ := hnew b k hu
      have g2 : kc.own = true := by rw [e0] at h3; exact h3
      obtain ⟨c', kc', l1', s1', g1', g2', _, _, g5', g6', _, g8'⟩ := hnew b' k' hu'
      rw [h4] at g6; injection g6 with g6; injection g6 with e1 e2; subst e1; subst e2
      rw [h5] at g6'; injection g6' with g6'; injection g6' with e1 e2; subst e1; subst e2
      have e := hR'.inj c c' kc kc' l s s' g1 g1' g2 g5 g5'
      subst e
      rcases g8 with g8 | g8 <;> rcases g8' with g8' | g8'
      · exact lk_inj hN2 g8 g8'
      · have i1 := hNk b c g8; have i2 := hLk c b' g8'; omega
      · have i1 := hNk b' c g8'; have i2 := hLk c b g8; omega
      · rw [g8] at g8'; injection g8'
    · obtain ⟨c, kc, l1, s1, g1, _, e0, _, g5, g6, _, g8⟩ := hnew b k hu
      have g2 : kc.own = true := by rw [e0] at h3; exact h3
      obtain ⟨l2, s2, q1, q2, _, q4, q5⟩ := hold b' k' hk' hu'
      rw [h4] at g6; injection g6 with g6; injection g6 with e1 e2; subst e1; subst e2
      rw [h5] at q2; injection q2 with q2; injection q2 with e1 e2; subst e1; subst e2
      exact absurd (hR'.own c kc l s g1 g2 g5) q5
    · obtain ⟨c, kc, l1, s1, g1, g2, _, _, g5, g6, _, g8⟩ := hnew b' k' hu'
      obtain ⟨l2, s2, q1, q2, _, q4, q5⟩ := hold b k hk hu
      rw [h5] at g6; injection g6 with g6; injection g6 with e1 e2; subst e1; subst e2
      rw [h4] at q2; injection q2 with q2; injection q2 with e1 e2; subst e1; subst e2
      rcases g2 with g2 | ⟨k0, g2, g3⟩
      · exact absurd (hR'.own c kc l s' g1 g2 g5) q5
      · obtain ⟨b2, k3, f1, f2, _⟩ := hblk c k0 g3
        have hb2 : b2 = b' := by
          rcases hsrc c b2 f1 with ⟨r1, r2⟩ | ⟨_, _, _, r4⟩
          · have := hLk c b' g2; omega
          · rw [g2] at r4; injection r4 with r4; exact r4.symm
        subst hb2
        obtain ⟨l3, s3, p1, _⟩ := hR.blk b2 k3 f2
        have p2 := hE2old b2 _ p1
        rw [h5] at p2; injection p2 with p2; injection p2 with p3 p4; subst p3; subst p4
        have e := hR.inj b b2 k k3 l s s' hk f2 h3 q1 p1
        subst e
        rw [hu] at hu'
    · obtain ⟨l1, s1, q1, q2, _⟩ := hold b k hk hu
      obtain ⟨l2, s2, r1, r2, _⟩ := hold b' k' hk' hu'
      rw [h4] at q2; injection q2 with q2; injection q2 with e1 e2; subst e1; subst e2
      rw [h5] at r2; injection r2 with r2; injection r2 with e1 e2; subst e1; subst e2
      exact hR.inj b b' k k' l s s' hk hk' h3 q1 r1
  · rcases hupd b k h1 with hu | ⟨hu, hk⟩
    · obtain ⟨c, kc, l1, s1, g1, _, e0, _, g5, g6, _, g8⟩ := hnew b k hu
      have g2 : kc.own = true := by rw [e0] at h2; exact h2
      rw [h3] at g6; injection g6 with g6; injection g6 with e1 e2; subst e1; subst e2
      exact hSc l (hR'.own c kc l s g1 g2 g5)
    · obtain ⟨l1, s1, q1, q2, _⟩ := hold b k hk hu
      rw [h3] at q2; injection q2 with q2; injection q2 with e1 e2; subst e1; subst e2
      exact hR.own b k l s hk h2 q1
theorem op_call {f : FuncId} {fn : Func} {cc : Code} {xs : Array Operand} {ts : Array TypeId} {args : List AV} {H0 H1 U : List (Nat × Option ABlk)} {wr : Bool} (L N : List (Nat × Nat)) (hm : Meets P f args H0 v0 H1)
    (hf : P.funcs[f]? = some fn) (hname : (fn.name == "runtime.NumGoroutine") = false) (hb : fn.body = some cc)
    (hL : LOkC L = true) (hN : NOk N nm U = true) (ha : ArgsOk T L xs.toList args) (hH : HLeC H L H0) (hU : UOk L N H0 H1 U) (hC : Cov L U H0) (hv : nmOkF L N v0.names = true) :
    OpSem P T H ⟨d, .call { callee := .value (.func f), args := xs, argTypes := ts }, ty, ps, af, gd⟩ nm wr (v0.ren (fwd L N)) U := by
  refine op_callO L N hm (fun E a w hop => ?_) hL hN hH hU hC hv
  obtain ⟨hlen, hargs⟩ := ha.spec
  refine ⟨xs.map a.eval, ?_, by simp [hlen], fun i q yv hq hy => ?_⟩
  · have h1 : fn.name ≠ "runtime.NumGoroutine" := by simpa using hname
    have hcf : (callFunc f (xs.map a.eval)).run P w = .ok (.enter f (xs.map a.eval)) w := by simp [callFunc, hf, h1, hb]
    simp [execOp, resolve, invoke, Act.eval, Deferred.ofValue, hcf]
  · have hi : i < args.length := (List.getElem?_eq_some_iff.1 hq).1
    have hi2 : i < xs.toList.length := by omega
    obtain ⟨u, h1, rfl, h3⟩ := hargs i q xs.toList[i] hq (List.getElem?_eq_getElem hi2)
    have hi3 : i < xs.size := by simpa using hi2
    have hy' : yv = a.eval xs[i] := by
      rw [Array.getElem?_map, Array.getElem?_eq_getElem hi3] at hy
      simpa using hy.symm
    subst hy'
    exact ⟨u, rfl, h3, hop xs[i] (by simp [Op.operands, Call.operands]) u (by simpa using h1)⟩
/-- A closure is called: what it has captured follows the arguments. -/
theorem op_callClo {f : FuncId} {fn : Func} {cc : Code} {cl : Operand} {caps : List AV} {xs : Array Operand} {ts : Array TypeId} {args args2 : List AV} {H0 H1 U : List (Nat × Option ABlk)} {wr : Bool} (L N : List (Nat × Nat)) (hm : Meets P f (args ++ args2) H0 v0 H1)
    (hf : P.funcs[f]? = some fn) (hname : (fn.name == "runtime.NumGoroutine") = false) (hb : fn.body = some cc) (hcl : aev T cl = some (.clo f caps)) (hc2 : caps.map (AV.ren (backC L)) = args2) (hc3 : (caps.all fun u => nmOkC L u.names) = true)
    (hL : LOkC L = true) (hN : NOk N nm U = true) (ha : ArgsOk T L xs.toList args) (hH : HLeC H L H0) (hU : UOk L N H0 H1 U) (hC : Cov L U H0) (hv : nmOkF L N v0.names = true) :
    OpSem P T H ⟨d, .call { callee := .value cl, args := xs, argTypes := ts }, ty, ps, af, gd⟩ nm wr (v0.ren (fwd L N)) U := by
  refine op_callO L N hm (fun E a w hop => ?_) hL hN hH hU hC hv
  obtain ⟨hlen, hargs⟩ := ha.spec
  obtain ⟨ds, e1, e2, e3⟩ := (hop cl (by simp [Op.operands, Call.operands]) _ hcl).clo_inv
  subst hc2
  refine ⟨xs.map a.eval ++ ds, ?_, by simp [hlen, e2], fun i q yv hq hy => ?_⟩
  · have h1 : fn.name ≠ "runtime.NumGoroutine" := by simpa using hname
    have hcf : (callFunc f (xs.map a.eval ++ ds)).run P w = .ok (.enter f (xs.map a.eval ++ ds)) w := by simp [callFunc, hf, h1, hb]
    simp [execOp, resolve, invoke, e1, Deferred.ofValue, hcf]
  · have hsz : (xs.map a.eval).size = args.length := by simp [hlen]
    by_cases hi : i < args.length
    · rw [List.getElem?_append_left hi] at hq
      rw [Array.getElem?_append_left (by omega)] at hy
      have hi2 : i < xs.toList.length := by omega
      obtain ⟨u, h1, rfl, h3⟩ := hargs i q xs.toList[i] hq (List.getElem?_eq_getElem hi2)
      have hi3 : i < xs.size := by simpa using hi2
      have hy' : yv = a.eval xs[i] := by
        rw [Array.getElem?_map, Array.getElem?_eq_getElem hi3] at hy
        simpa using hy.symm
      subst hy'
      exact ⟨u, rfl, h3, hop xs[i] (by simp [Op.operands, Call.operands]) u (by simpa using h1)⟩
    · rw [List.getElem?_append_right (by omega)] at hq
      rw [Array.getElem?_append_right (by omega), hsz] at hy
      obtain ⟨u, hu, rfl⟩ := get_map_some hq
      exact ⟨u, rfl, List.all_eq_true.1 hc3 u (List.mem_of_getElem? hu), e3 _ u yv hu hy⟩
end
end Go.Proofs.YtdpdmgbdipokdaaDoor
namespace Go.Proofs.YtdpdmgbdipokdaaDoor
open Go.RowKit
/-- What is known of an element's type. -/
def Inf (P : Program) (e : TypeId) (z : Nat) (zv : Value) : Prop := ∃ ie, P.info? e = some ie ∧ ie.zero = some zv ∧ ie.size = z ∧ ie.bytes ≤ 64 ∧ zv.cells.size = z
theorem Inf.mk {P : Program} {e z b : Nat} {zv : Value} (h : (P.info? e).map (fun i => (i.zero, i.size, i.bytes)) = some (some zv, z, b)) (hb : b ≤ 64) (hz : zv.cells.size = z) : Inf P e z zv := by
  cases hq : P.info? e with
  | none => simp [hq] at h
  | some ie => simp [hq] at h; exact ⟨ie, hq ▸ rfl, h.1, h.2.1, by omega, hz⟩
theorem Inf.sz {P : Program} {e z : Nat} {zv : Value} (h : Inf P e z zv) : (P.info? e).map (·.size) = some z := by obtain ⟨ie, h1, _, h2, _⟩ := h; simp [h1, h2]
theorem Inf.zero {P : Program} {e z : Nat} {zv : Value} (h : Inf P e z zv) : (P.info? e).map (·.zero) = some (some zv) := by obtain ⟨ie, h1, h2, _⟩ := h; simp [h1, h2]
section
variable {P : Program} {T : Nat → Option AV} {H : Hp} {nm : Nat} {wr : Bool} {v u u1 u2 c c' : AV} {d : Option Tmp} {ty : TypeId} {ps : String} {af : Array Edge} {gd : Option (Nat × Bool)} {t t' t2 e : TypeId} {x y : Operand} {dd d2 : TypeDesc} {b o n z i m b2 o2 : Nat} {k k2 : ABlk} {zv : Value}
theorem ap_append {cs : List AV} (ht : P.underlying t = some (.slice e)) (ht2 : P.underlying t2 = some d2) (hd2 : notInt d2) (hi : Inf P e z zv)
    (hx : aev T x = some (.sl b 0 n z)) (hk : H b = some k) (hown : k.own = true) (hke : k.elem = e) (hn : k.c.len = n * z) (hs : Srcs P T H y z m cs) (hc : c'.list = k.c.list ++ cs) (hlim : n + m ≤ 10000000000) (hm0 : c'.isMap = false := by first | rfl | assumption | exact AV.map_parts (by assumption)) (hm1 : k.c.isMap = false := by first | rfl | assumption | exact AV.map_parts (by assumption)) :
    OpSem P T H ⟨d, .call { callee := .builtin .append, args := #[x, y], argTypes := #[t, t2] }, ty, ps, af, gd⟩ nm wr (.sl nm 0 (n + m) z) [(nm, some ⟨c', e, true⟩), (b, none)] := by
  obtain ⟨ie, h1, h2, h3, h4, h5⟩ := hi
  exact op_append ht ht2 hd2 h1 h2 (by omega) h3 (by omega) hx hk hown hke hn hs hc hlim
theorem ap_append_nil {cs : List AV} (ht : P.underlying t = some (.slice e)) (ht2 : P.underlying t2 = some d2) (hd2 : notInt d2) (hi : Inf P e z zv)
    (hx : aev T x = some .nilsl) (hs : Srcs P T H y z m cs) (hc : c'.list = cs) (h0 : 0 < m) (hlim : m ≤ 10000000000) (hm0 : c'.isMap = false := by first | rfl | assumption | exact AV.map_parts (by assumption)) :
    OpSem P T H ⟨d, .call { callee := .builtin .append, args := #[x, y], argTypes := #[t, t2] }, ty, ps, af, gd⟩ nm wr (.sl nm 0 m z) [(nm, some ⟨c', e, true⟩)] := by
  obtain ⟨ie, h1, h2, h3, h4, h5⟩ := hi
  exact op_append_nil ht ht2 hd2 h1 h2 (by omega) h3 (by omega) hx hs hc h0 hlim
/-- append of a literal's elements, typed rows. -/
theorem ap_cat (ht : P.underlying t = some (.slice e)) (hi : Inf P e 1 zv)
    (hx : aev T x = some (.sl b 0 n 1)) (hk : H b = some k) (hown : k.own = true) (hke : k.elem = e) (hn : k.c.len = n) (hy : aev T y = some (.sl b2 0 m 1)) (hk2 : H b2 = some k2) (hm : k2.c.len = m) (hc : k.c.cat k2.c = some c') (hlim : n + m ≤ 10000000000) (hw0 : k2.c.rowWhole = true := by rfl) :
    OpSem P T H ⟨d, .call { callee := .builtin .append, args := #[x, y], argTypes := #[t, t] }, ty, ps, af, gd⟩ nm wr (.sl nm 0 (n + m) 1) [(nm, some ⟨c', e, true⟩), (b, none)] := by
  obtain ⟨hq1, hq2, hq3⟩ := cat_map hc
  have hs := srcs_sl (P := P) (T := T) (H := H) (z := 1) (m := m) (o := 0) hy hk2 (by omega) hw0
  refine ap_append ht ht (.inr ⟨e, rfl⟩) hi hx hk hown hke (by omega) hs ?_ hlim
  rw [cat_list hc]
  congr 1
  rw [List.drop_zero, List.take_of_length_le (by rw [len_list]; omega)]
theorem ap_cat_nil (ht : P.underlying t = some (.slice e)) (hi : Inf P e 1 zv)
    (hx : aev T x = some .nilsl) (hy : aev T y = some (.sl b2 0 m 1)) (hk2 : H b2 = some k2) (hm : k2.c.len = m) (h0 : 0 < m) (hlim : m ≤ 10000000000) (hw0 : k2.c.rowWhole = true := by rfl) (hm0 : k2.c.isMap = false := by first | rfl | assumption | exact AV.map_parts (by assumption)) :
    OpSem P T H ⟨d, .call { callee := .builtin .append, args := #[x, y], argTypes := #[t, t] }, ty, ps, af, gd⟩ nm wr (.sl nm 0 m 1) [(nm, some ⟨k2.c, e, true⟩)] := by
  have hs := srcs_sl (P := P) (T := T) (H := H) (z := 1) (m := m) (o := 0) hy hk2 (by omega) hw0
  refine ap_append_nil ht ht (.inr ⟨e, rfl⟩) hi hx hs ?_ h0 hlim
  rw [List.drop_zero, List.take_of_length_le (by rw [len_list]; omega)]
theorem ap_build {us : List AV} {len : Nat} {parts : Array (Nat × Operand)} (hu : P.underlying t = some (.slice e)) (hi : Inf P e 1 zv) (hlen : us.length = len) (hpos : 0 < len) (hsm : len ≤ 65536)
    (hp : partsOk T parts.toList 0 us) (hc : c.list = us) (hm0 : c.isMap = false := by first | rfl | assumption | exact AV.map_parts (by assumption)) : OpSem P T H ⟨d, .buildSlice t len parts, ty, ps, af, gd⟩ nm wr (.sl nm 0 len 1) [(nm, some ⟨c, e, true⟩)] := by
  obtain ⟨ie, h1, h2, h3, h4, h5⟩ := hi
  exact op_buildSlice hu h1 h2 h3 hlen hpos hsm hp hc
theorem ap_build0 (hu : P.underlying t = some (.slice e)) (hi : Inf P e z zv) (hc : c.list = []) (hm0 : c.isMap = false := by first | rfl | assumption | exact AV.map_parts (by assumption)) : OpSem P T H ⟨d, .buildSlice t 0 #[], ty, ps, af, gd⟩ nm wr (.sl nm 0 0 z) [(nm, some ⟨c, e, true⟩)] := by
  obtain ⟨ie, h1, h2, h3, h4, h5⟩ := hi
  exact op_buildSlice0 hu h1 hc
theorem ap_make {jl jc : Int} (ht : P.underlying t = some (.slice e)) (hi : Inf P e 1 zv) (hx : aev T x = some (.i64 jl)) (hy : aev T y = some (.i64 jc)) (hl : jl = (n : Int)) (hcc : jc = (n : Int)) (hn : n ≤ 1000000000)
    (hr0 : Rel Emb.nil u zv) (h1 : u.one = true) (hc : c.list = List.replicate n u) (hm0 : c.isMap = false := by first | rfl | assumption | exact AV.map_parts (by assumption)) : OpSem P T H ⟨d, .makeSlice t x y, ty, ps, af, gd⟩ nm wr (.sl nm 0 n 1) [(nm, some ⟨c, e, true⟩)] := by
  obtain ⟨ie, g1, g2, g3, g4, g5⟩ := hi
  exact op_makeSlice ht g1 g2 g3 g4 hx hy hl hcc hn hr0 h1 hc
theorem ap_slice_sl_hi {hi : Option Operand} {h : Nat} (ht : P.underlying t = some (.slice e)) (hz : (P.info? e).map (·.size) = some z) (hx : aev T x = some (.sl b o n z)) (hh : bnd T n hi h) (h2 : h ≤ n) :
    OpSem P T H ⟨d, .slice t x none hi none, ty, ps, af, gd⟩ nm wr (.sl b o h z) [] := by
  have := op_slice_sl (nm := nm) (wr := wr) (H := H) (d := d) (ty := ty) (ps := ps) (af := af) (gd := gd) (lo := none) ht hz hx rfl hh (Nat.zero_le _) h2
  rwa [Nat.zero_mul, Nat.add_zero, Nat.sub_zero] at this
theorem ap_slice_arr_hi {hi : Option Operand} {h : Nat} (ht : P.underlying t = some (.array n e)) (hz : (P.info? e).map (·.size) = some z) (hx : aev T x = some (.ptr b o)) (hk : H b = some k) (hlen : o + n * z ≤ k.c.len) (hnm : n ≤ maxLen) (hh : bnd T n hi h) (h2 : h ≤ n) (hm0 : k.c.isMap = false := by first | rfl | assumption | exact AV.map_parts (by assumption)) :
    OpSem P T H ⟨d, .slice t x none hi none, ty, ps, af, gd⟩ nm wr (.sl b o h z) [] := by
  have := op_slice_arr (nm := nm) (wr := wr) (H := H) (d := d) (ty := ty) (ps := ps) (af := af) (gd := gd) (lo := none) ht hz hx hk hlen hnm rfl hh (Nat.zero_le _) h2
  rwa [Nat.zero_mul, Nat.add_zero, Nat.sub_zero] at this
theorem ap_slice_str_hi {s : List UInt8} {hi : Option Operand} {h : Nat} (ht : P.underlying t = some .string) (hx : aev T x = some (.str s)) (hh : bnd T s.length hi h) (h2 : h ≤ s.length) :
    OpSem P T H ⟨d, .slice t x none hi none, ty, ps, af, gd⟩ nm wr (.str (s.take h)) [] := by
  have := op_slice_str (H := H) (nm := nm) (wr := wr) (d := d) (ty := ty) (ps := ps) (af := af) (gd := gd) (lo := none) ht hx rfl hh (Nat.zero_le _) h2
  rwa [List.drop_zero, Nat.sub_zero] at this
theorem ap_slice_str_lo {s : List UInt8} {lo : Option Operand} {l : Nat} (ht : P.underlying t = some .string) (hx : aev T x = some (.str s)) (hl : bnd T 0 lo l) (h2 : l ≤ s.length) :
    OpSem P T H ⟨d, .slice t x lo none none, ty, ps, af, gd⟩ nm wr (.str (s.drop l)) [] := by
  have := op_slice_str (H := H) (nm := nm) (wr := wr) (d := d) (ty := ty) (ps := ps) (af := af) (gd := gd) (hi := none) ht hx hl rfl h2 (Nat.le_refl _)
  rwa [List.take_of_length_le (by simp)] at this
/-- An element of one cell. -/
theorem ap_idx {j : Int} (ht : P.underlying t = some (.slice e)) (hz : (P.info? e).map (·.size) = some 1) (hx : aev T x = some (.sl b o n 1)) (hy : aev T y = some (.i64 j)) (hj : j = (i : Int)) (hlt : i < n) :
    OpSem P T H ⟨d, .indexAddr t x y, ty, ps, af, gd⟩ nm wr (.ptr b (o + i)) [] := by
  have := op_indexAddr (H := H) (nm := nm) (wr := wr) (d := d) (ty := ty) (ps := ps) (af := af) (gd := gd) ht hz hx hy hj hlt
  rwa [Nat.mul_one] at this
/-- An element of one cell, of a slice that begins at the block's head. -/
theorem ap_idx0 {j : Int} (ht : P.underlying t = some (.slice e)) (hz : (P.info? e).map (·.size) = some 1) (hx : aev T x = some (.sl b 0 n 1)) (hy : aev T y = some (.i64 j)) (hj : j = (i : Int)) (hlt : i < n) :
    OpSem P T H ⟨d, .indexAddr t x y, ty, ps, af, gd⟩ nm wr (.ptr b i) [] := by
  have := ap_idx (H := H) (nm := nm) (wr := wr) (d := d) (ty := ty) (ps := ps) (af := af) (gd := gd) ht hz hx hy hj hlt
  rwa [Nat.zero_add] at this
theorem ap_idx_arr {j : Int} (ht : P.underlying t = some (.array n e)) (hz : (P.info? e).map (·.size) = some 1) (hx : aev T x = some (.ptr b 0)) (hy : aev T y = some (.i64 j)) (hj : j = (i : Int)) (hlt : i < n) :
    OpSem P T H ⟨d, .indexAddr t x y, ty, ps, af, gd⟩ nm wr (.ptr b i) [] := by
  have := op_indexAddr_arr (H := H) (nm := nm) (wr := wr) (d := d) (ty := ty) (ps := ps) (af := af) (gd := gd) ht hz hx hy hj hlt
  rwa [Nat.mul_one, Nat.zero_add] at this
theorem toNat_idx {j : Int} (h : 0 ≤ j) : j = (j.toNat : Int) := (Int.toNat_of_nonneg h).symm
end
section
variable {P : Program} {nt : Nat} {st : St} {post : Exit → St → Prop} {ops rest : List Oper} {q : St → Prop} {d : Nat} {b : Bool} {T : List (Nat × AV)} {H : List (Nat × Option ABlk)} {nx : Nat}
theorem EvL.split (h1 : b = true → EvL P nt ops rest ⟨(d, .bool true) :: T, H, nx⟩ q) (h2 : b = false → EvL P nt ops rest ⟨(d, .bool false) :: T, H, nx⟩ q) : EvL P nt ops rest ⟨(d, .bool b) :: T, H, nx⟩ q := by
  cases b with
  | true => exact h1 rfl
  | false => exact h2 rfl
theorem EvL.know {b' : Bool} (hb : b = b') (h : EvL P nt ops rest ⟨(d, .bool b') :: T, H, nx⟩ q) : EvL P nt ops rest ⟨(d, .bool b) :: T, H, nx⟩ q := hb ▸ h
/-- The last slot's value is another way to write it. -/
theorem EvL.as {v : AV} (v' : AV) (hv : v = v') (h : EvL P nt ops rest ⟨(d, v') :: T, H, nx⟩ q) : EvL P nt ops rest ⟨(d, v) :: T, H, nx⟩ q := hv ▸ h
/-- The last block's content is another way to write it. -/
theorem EvL.asH {c : AV} {e : Nat} {ow : Bool} (c' : AV) (hv : c = c') (h : EvL P nt ops rest ⟨T, (d, some ⟨c', e, ow⟩) :: H, nx⟩ q) : EvL P nt ops rest ⟨T, (d, some ⟨c, e, ow⟩) :: H, nx⟩ q := hv ▸ h
theorem ret1v {fn : Func} {t : Tmp} {v v' : AV} {H1 : List (Nat × Option ABlk)} {e : Exit} (hr : fn.results = #[.tmp t]) (he : e = .ret ∨ e = .normal) (hv : lk st.T t = some v') (hvv : v' = v) (hH : HSub (hget st.H) H1) : RetOk P fn nt v H1 e st := by
  subst hvv; exact ret1 hr he hv hH.spec
theorem ret2v {fn : Func} {t u : Tmp} {v1 v2 v1' v2' : AV} {H1 : List (Nat × Option ABlk)} {e : Exit} (hr : fn.results = #[.tmp t, .tmp u]) (he : e = .ret ∨ e = .normal) (hv : lk st.T t = some v1') (hu : lk st.T u = some v2') (h1 : v1' = v1) (h2 : v2' = v2) (hH : HSub (hget st.H) H1) : RetOk P fn nt (.tup [v1, v2]) H1 e st := by
  subst h1; subst h2; exact ret2 hr he hv hu hH.spec
theorem EvL.conv {st' : St} (h : st = st') (h2 : EvL P nt ops rest st' q) : EvL P nt ops rest st q := h ▸ h2
theorem Ev.conv {c : Code} {st' : St} (h : st = st') (h2 : Ev P nt c st' post) : Ev P nt c st post := h ▸ h2
end
end Go.Proofs.YtdpdmgbdipokdaaDoor
namespace Go.Proofs.YtdpdmgbdipokdaaDoor
open Go.RowKit

def Tput (f : Nat → Option AV) (d : Option Nat) (v : AV) : Nat → Option AV := match d with
  | some d => fun t => match Nat.beq d t with
    | true => some v
    | false => f t
  | none => f
theorem lk_cons (d : Nat) (v : AV) (T : List (Nat × AV)) : lk ((d, v) :: T) = Tput (lk T) (some d) v := rfl
theorem Tput_same {f : Nat → Option AV} {d : Nat} {v : AV} {t : Nat} (h : d ≠ t) : Tput f (some d) v t = f t := by
  have : Nat.beq d t = false := by
    cases hb : Nat.beq d t with
    | false => rfl
    | true => exact absurd (Nat.eq_of_beq_eq_true hb) h
  simp [Tput, this]
theorem Tput_at {f : Nat → Option AV} {d : Nat} {v : AV} : Tput f (some d) v d = some v := by simp [Tput]
theorem Tput_comm {f : Nat → Option AV} {d e : Option Nat} {u v : AV} (h : ∀ x, d = some x → e ≠ some x) : Tput (Tput f d u) e v = Tput (Tput f e v) d u := by
  cases d with
  | none => rfl
  | some d =>
    cases e with
    | none => rfl
    | some e =>
      have hne : d ≠ e := fun h2 => h d rfl (h2 ▸ rfl)
      funext t
      by_cases h1 : d = t
      · subst h1; rw [Tput_at, Tput_same (fun h => hne h.symm), Tput_at]
      · rw [Tput_same (f := Tput f (some e) v) h1]
        by_cases h2 : e = t
        · subst h2; rw [Tput_at, Tput_at]
        · rw [Tput_same h2, Tput_same h1, Tput_same h2]

/-- What an operation reads: its operands' slots, and its guard's. -/
def rdsOf (ops : List Oper) (o : Oper) : List Nat :=
  (o.op.operands.toList.filterMap fun | .tmp t => some t | _ => none) ++ (match o.guard with
    | some (g, _) => ((ops[g]?).bind (·.dst)).toList
    | none => [])
structure Dc where
  P : Program
  ops : List Oper
  base : Nat
  /-- of each operation those that surely come before it -/
  cl : List (List Nat)
  /-- the operations that touch memory, and those that write -/
  ms : List Nat
  ws : List Nat
  /-- of some operations the names that they read, and that they write -/
  ft : List (Nat × (List Nat × List Nat)) := []
namespace Dc
def pre (c : Dc) (i : Nat) : List Nat := (c.cl[i]?).getD []
def mem (c : Dc) (i : Nat) : Bool := c.ms.contains i
def feet (c : Dc) (i : Nat) : Option (List Nat × List Nat) := lk c.ft i
def wr (c : Dc) (i : Nat) : Bool := c.ws.contains i && (c.feet i).isNone
def hidden (c : Dc) (i b : Nat) : Bool := Nat.ble c.base b && !(c.pre i).contains ((b - c.base) / 8)
def vw (c : Dc) (i : Nat) (F : Hp) : Hp := match c.feet i with
  | some p => fun b => match (p.1 ++ p.2).contains b with
    | true => F b
    | false => none
  | none => match c.wr i with
    | true => F
    | false => match c.mem i with
      | true => fun b => match c.hidden i b with
        | true => none
        | false => F b
      | false => fun _ => none
def dstOf (c : Dc) (i : Nat) : Option Nat := (c.ops[i]?).bind (·.dst)
def rds (c : Dc) (i : Nat) : List Nat := match c.ops[i]? with
  | some o => rdsOf c.ops o
  | none => []
/-- The memory of the two does not meet. -/
def memOk (c : Dc) (i j : Nat) : Bool := match c.feet i, c.feet j with
  | some p, some q => (p.2.all fun b => !(q.1 ++ q.2).contains b) && (q.2.all fun b => !(p.1 ++ p.2).contains b)
  | some p, none => !c.mem j || (p.2.isEmpty && !c.wr j)
  | none, some q => !c.mem i || (q.2.isEmpty && !c.wr i)
  | none, none => !((c.wr i && c.mem j) || (c.mem i && c.wr j))
/-- The static conditions on the region. -/
def pairOk (c : Dc) (i j : Nat) : Bool := (c.pre j).contains i ||
  (c.memOk i j && !((c.dstOf i).any fun d => (c.rds j).contains d) && !((c.dstOf j).any fun d => (c.rds i).contains d) && !((c.dstOf i).isSome && c.dstOf i == c.dstOf j))
def feetOk (c : Dc) (j : Nat) : Bool := match c.feet j with
  | some p => c.mem j && (p.1 ++ p.2).all fun b => Nat.blt b c.base || (c.pre j).contains ((b - c.base) / 8)
  | none => true
def ok (c : Dc) : Bool :=
  (List.range c.ops.length).all fun j =>
    ((c.pre j).all fun x => Nat.blt x j) && (!c.wr j || c.mem j) &&
    (match c.ops[j]? with
      | some o => (o.after.toList.all fun e => !Region.binds .any e || Nat.blt e.on j) &&
        ((c.pre j).all fun x => o.after.toList.any fun e => Region.binds .any e && (Nat.beq e.on x || (c.pre e.on).contains x)) &&
        (match o.guard with | some (g, _) => (c.pre j).contains g | none => true)
      | none => true) &&
    (c.feetOk j && (List.range j).all fun i => c.pairOk i j)
/-- What an operation may give anew. -/
def may (c : Dc) (i b : Nat) : Prop := (c.wr i = true ∧ b < c.base + 8 * i + 8) ∨ (c.base + 8 * i ≤ b ∧ b < c.base + 8 * i + 8) ∨ ∃ p, c.feet i = some p ∧ b ∈ p.2
end Dc
/-- The guard says yes. -/
def GYes (c : Dc) (T : Nat → Option AV) : Option (Nat × Bool) → Prop
  | none => True
  | some (j, want) => ∃ g, (c.ops[j]?).bind (·.dst) = some g ∧ T g = some (.bool want)
def GNo (c : Dc) (T : Nat → Option AV) : Option (Nat × Bool) → Prop
  | none => False
  | some (j, want) => ∃ g, (c.ops[j]?).bind (·.dst) = some g ∧ (T g = some (.bool (!want)) ∨ T g = some (.val undef))
/-- The same where the guard's value is known. -/
def GNoB (c : Dc) (T : Nat → Option AV) : Option (Nat × Bool) → Prop
  | none => False
  | some (j, want) => ∃ g, (c.ops[j]?).bind (·.dst) = some g ∧ T g = some (.bool (!want))
/-- The same where the guard's operation was not made. -/
def GNoU (c : Dc) (T : Nat → Option AV) : Option (Nat × Bool) → Prop
  | none => False
  | some (j, _) => ∃ g, (c.ops[j]?).bind (·.dst) = some g ∧ T g = some (.val undef)
theorem GNoB.no {c : Dc} {T : Nat → Option AV} {gd : Option (Nat × Bool)} (h : GNoB c T gd) : GNo c T gd := by
  cases gd with
  | none => exact h
  | some p => obtain ⟨g, h1, h2⟩ := h; exact ⟨g, h1, .inl h2⟩
theorem GNoU.no {c : Dc} {T : Nat → Option AV} {gd : Option (Nat × Bool)} (h : GNoU c T gd) : GNo c T gd := by
  cases gd with
  | none => exact h
  | some p => obtain ⟨g, h1, h2⟩ := h; exact ⟨g, h1, .inr h2⟩
inductive DCh (c : Dc) : List Nat → (Nat → Option AV) → Hp → (Nat → Option AV) → Hp → Prop
  | nil (T : Nat → Option AV) (F : Hp) : DCh c [] T F T F
  | op (i : Nat) (l : List Nat) (o : Oper) (v : AV) (U : List (Nat × Option ABlk)) (T : Nat → Option AV) (F : Hp) (T' : Nat → Option AV) (F' : Hp) : c.ops[i]? = some o → GYes c T o.guard →
      OpSem c.P T (c.vw i F) o (c.base + 8 * i) (c.wr i) v U → (c.mem i = false → U = []) → (∀ b, lk U b ≠ none → c.may i b) →
      DCh c l (Tput T o.dst v) (upd U F) T' F' → DCh c (i :: l) T F T' F'
  | no (i : Nat) (l : List Nat) (o : Oper) (T : Nat → Option AV) (F : Hp) (T' : Nat → Option AV) (F' : Hp) : c.ops[i]? = some o → GNo c T o.guard →
      DCh c l (Tput T o.dst (.val undef)) F T' F' → DCh c (i :: l) T F T' F'
theorem OpSem.congrT {P : Program} {T T1 : Nat → Option AV} {H : Hp} {o : Oper} {nm : Nat} {wr : Bool} {v : AV} {U : List (Nat × Option ABlk)} (h : OpSem P T1 H o nm wr v U) (hT : ∀ x ∈ o.op.operands, aev T x = aev T1 x) : OpSem P T H o nm wr v U := by
  intro E S n0 H2 a w h1 h2 h3 h4 h5 h6 h7 h8 h9 K Q hK
  exact h E S n0 H2 a w h1 h2 h3 h4 h5 h6 (fun x hx u hu => h7 x hx u (by rw [hT x hx]; exact hu)) h8 h9 K Q hK
theorem aev_congr {T T1 : Nat → Option AV} {x : Operand} (h : ∀ t, x = .tmp t → T t = T1 t) : aev T x = aev T1 x := by
  cases x with
  | tmp t => exact h t rfl
  | _ => rfl
theorem mem_rds {ops : List Oper} {o : Oper} {t : Nat} (h : Operand.tmp t ∈ o.op.operands) : t ∈ rdsOf ops o := by
  simp only [rdsOf, List.mem_append, List.mem_filterMap]
  exact .inl ⟨.tmp t, by simpa using h, rfl⟩
theorem guard_rds {ops : List Oper} {o : Oper} {j g : Nat} {want : Bool} (h : o.guard = some (j, want)) (hg : (ops[j]?).bind (·.dst) = some g) : g ∈ rdsOf ops o := by
  simp only [rdsOf, List.mem_append, h, hg]
  exact .inr (by simp)
theorem Tput_off {f : Nat → Option AV} {d : Option Nat} {v : AV} {t : Nat} (h : d ≠ some t) : Tput f d v t = f t := by
  cases d with
  | none => rfl
  | some d => exact Tput_same (fun e => h (e ▸ rfl))
section
variable {c : Dc}
theorem ok_spec (hok : c.ok = true) {i j : Nat} (hij : i < j) (hj : j < c.ops.length) (hn : i ∉ c.pre j) : c.memOk i j = true ∧ (∀ d, c.dstOf i = some d → d ∉ c.rds j) ∧ (∀ d, c.dstOf j = some d → d ∉ c.rds i) ∧ (∀ d, c.dstOf i = some d → c.dstOf j ≠ some d) := by
  have h := List.all_eq_true.1 hok j (List.mem_range.2 hj)
  simp only [Bool.and_eq_true] at h
  have h2 := List.all_eq_true.1 h.2.2 i (List.mem_range.2 hij)
  unfold Dc.pairOk at h2
  have h3 : (c.pre j).contains i = false := by
    cases hq : (c.pre j).contains i with
    | false => rfl
    | true => exact absurd (List.contains_iff_mem.1 hq) hn
  rw [h3, Bool.false_or] at h2
  simp only [Bool.and_eq_true, Bool.not_eq_true'] at h2
  obtain ⟨⟨⟨a1, b⟩, d⟩, e⟩ := h2
  refine ⟨a1, fun q hq hm => ?_, fun q hq hm => ?_, fun q hq hm => ?_⟩
  · rw [hq] at b; simp only [Option.any_some] at b; rw [List.contains_iff_mem.2 hm] at b; cases b
  · rw [hq] at d; simp only [Option.any_some] at d; rw [List.contains_iff_mem.2 hm] at d; cases d
  · rw [hq, hm] at e; simp at e
theorem feet_ok (hok : c.ok = true) {j : Nat} (hj : j < c.ops.length) {p : List Nat × List Nat} (hp : c.feet j = some p) : c.mem j = true ∧ ∀ b ∈ p.1 ++ p.2, b < c.base ∨ (b - c.base) / 8 ∈ c.pre j := by
  have h := List.all_eq_true.1 hok j (List.mem_range.2 hj)
  simp only [Bool.and_eq_true] at h
  have h2 := h.2.1
  unfold Dc.feetOk at h2
  rw [hp] at h2
  simp only [Bool.and_eq_true] at h2
  refine ⟨h2.1, fun b hb => ?_⟩
  have := List.all_eq_true.1 h2.2 b hb
  simp only [Bool.or_eq_true] at this
  exact this.imp blt_true List.contains_iff_mem.1
theorem wr_feet {i : Nat} (h : c.wr i = true) : c.feet i = none := by
  unfold Dc.wr at h
  simp only [Bool.and_eq_true] at h
  exact Option.isNone_iff_eq_none.1 h.2
theorem not_contains {l : List Nat} {b : Nat} (h : l.contains b = false) : b ∉ l := fun hm => by rw [List.contains_iff_mem.2 hm] at h; cases h
theorem memOk_comm {i j : Nat} (h : c.memOk i j = true) : c.memOk j i = true := by
  unfold Dc.memOk at h ⊢
  cases hi : c.feet i <;> cases hj : c.feet j <;> simp only [hi, hj] at h ⊢
  · rw [Bool.and_comm (c.wr j), Bool.and_comm (c.mem j), Bool.or_comm]; exact h
  · exact h
  · exact h
  · rw [Bool.and_comm]; exact h
theorem wr_mem (hok : c.ok = true) {j : Nat} (hj : j < c.ops.length) (h : c.wr j = true) : c.mem j = true := by
  have h1 := List.all_eq_true.1 hok j (List.mem_range.2 hj)
  simp only [Bool.and_eq_true, Bool.or_eq_true, Bool.not_eq_true'] at h1
  rcases h1.1.1.2 with h2 | h2
  · rw [h] at h2; cases h2
  · exact h2
theorem pre_lt (hok : c.ok = true) {j x : Nat} (hj : j < c.ops.length) (h : x ∈ c.pre j) : x < j := by
  have h1 := List.all_eq_true.1 hok j (List.mem_range.2 hj)
  simp only [Bool.and_eq_true] at h1
  exact blt_true (List.all_eq_true.1 h1.1.1.1 x h)
/-- What the one may give anew, the other does not see. -/
theorem may_apart (hok : c.ok = true) {h i b : Nat} (hil : i < c.ops.length) (hi : h ∉ c.pre i) (hm : c.memOk h i = true) (hmh : c.mem h = true) (hb : c.may h b) : (∀ p, c.feet i = some p → b ∉ p.1 ++ p.2) := by
  intro p hp hbm
  unfold Dc.memOk at hm
  rw [hp] at hm
  rcases hb with ⟨h1, _⟩ | ⟨h1, h2⟩ | ⟨q, h1, h2⟩
  · rw [wr_feet h1] at hm
    simp only [hmh, h1, Bool.not_true, Bool.and_false, Bool.or_false] at hm
    cases hm
  · rcases (feet_ok hok hil hp).2 b hbm with h3 | h3
    · omega
    · rw [show (b - c.base) / 8 = h by omega] at h3; exact hi h3
  · rw [h1] at hm
    simp only [Bool.and_eq_true] at hm
    have := List.all_eq_true.1 hm.1 b h2
    simp only [Bool.not_eq_true'] at this
    exact not_contains this hbm
/-- The view of one operation does not depend on another one's blocks, if the other one does not surely come before it. -/
theorem vw_off (hok : c.ok = true) {i h : Nat} {F : Hp} {U : List (Nat × Option ABlk)} (hil : i < c.ops.length) (hi : h ∉ c.pre i) (hm : c.memOk h i = true) (h3 : c.mem h = false → U = []) (hwm : c.wr i = true → c.mem i = true)
    (h4 : ∀ b, lk U b ≠ none → c.may h b) : c.vw i (upd U F) = c.vw i F := by
  by_cases hmh : c.mem h = true
  case neg =>
    rw [h3 (by simpa using hmh)]; rfl
  unfold Dc.vw
  cases hf : c.feet i with
  | some p =>
    funext b
    simp only
    cases hc : (p.1 ++ p.2).contains b with
    | false => rfl
    | true =>
      have hbm := List.contains_iff_mem.1 hc
      have : lk U b = none := by
        cases hl : lk U b with
        | none => rfl
        | some r => exact absurd hbm (may_apart hok hil hi hm hmh (h4 b (by rw [hl]; simp)) p hf)
      simp only [upd, this]
  | none =>
    simp only
    cases hw : c.wr i with
    | true =>
      exfalso
      have hmi := hwm hw
      unfold Dc.memOk at hm
      rw [hf] at hm
      cases hfh : c.feet h with
      | some p => simp [hfh, hmi, hw] at hm
      | none => simp [hfh, hmi, hw, hmh] at hm
    | false =>
      cases hmi : c.mem i with
      | false => rfl
      | true =>
        funext b
        simp only
        cases hb : c.hidden i b with
        | true => rfl
        | false =>
          have : lk U b = none := by
            cases hl : lk U b with
            | none => rfl
            | some r =>
              exfalso
              unfold Dc.memOk at hm
              rw [hf] at hm
              rcases h4 b (by rw [hl]; simp) with ⟨h5, _⟩ | ⟨h5, h6⟩ | ⟨q, h5, h6⟩
              · rw [wr_feet h5] at hm
                simp [h5, hmi] at hm
              · have e : (b - c.base) / 8 = h := by omega
                have hc : (c.pre i).contains h = false := by
                  cases hq : (c.pre i).contains h with
                  | false => rfl
                  | true => exact absurd (List.contains_iff_mem.1 hq) hi
                unfold Dc.hidden at hb
                rw [e, hc, Nat.ble_eq_true_of_le (show c.base ≤ b by omega)] at hb
                cases hb
              · rw [h5] at hm
                simp only [hmi, Bool.not_true, Bool.false_or, Bool.and_eq_true] at hm
                rw [List.isEmpty_iff.1 hm.1] at h6
                cases h6
          simp only [upd, this]
/-- What the one may give anew, the other may not. -/
theorem may_two (hok : c.ok = true) {h i b : Nat} (hhl : h < c.ops.length) (hil : i < c.ops.length) (hne : h ≠ i) (hi : h ∉ c.pre i) (hh : i ∉ c.pre h) (hm : c.memOk h i = true) (hmh : c.mem h = true) (hmi : c.mem i = true) (h1 : c.may h b) (h2 : c.may i b) : False := by
  have a1 := may_apart hok hil hi hm hmh h1
  have a2 := may_apart hok hhl hh (memOk_comm hm) hmi h2
  rcases h2 with ⟨q1, q2⟩ | ⟨q1, q2⟩ | ⟨p, q1, q2⟩
  · unfold Dc.memOk at hm
    rw [wr_feet q1] at hm
    cases hf : c.feet h with
    | some p => simp [hf, hmi, q1] at hm
    | none => simp [hf, hmh, q1] at hm
  · rcases h1 with ⟨r1, r2⟩ | ⟨r1, r2⟩ | ⟨p, r1, r2⟩
    · unfold Dc.memOk at hm
      rw [wr_feet r1] at hm
      cases hf : c.feet i with
      | some p => simp [hf, hmh, r1] at hm
      | none => simp [hf, hmi, r1] at hm
    · omega
    · exact a2 p r1 (List.mem_append_right _ r2)
  · exact a1 p q1 (List.mem_append_right _ q2)
theorem upd_comm {F : Hp} {U V : List (Nat × Option ABlk)} (h : ∀ b, lk U b ≠ none → lk V b = none) : upd U (upd V F) = upd V (upd U F) := by
  funext b
  simp only [upd]
  cases hu : lk U b with
  | none => rfl
  | some r => rw [h b (by rw [hu]; simp)]
/-- An operation that may come first is taken out of the chain. -/
theorem DCh.take (hok : c.ok = true) : ∀ (l : List Nat) (T : Nat → Option AV) (F : Hp) (T' : Nat → Option AV) (F' : Hp), DCh c l T F T' F' → l.Pairwise (· < ·) → (∀ x ∈ l, x < c.ops.length) → ∀ i ∈ l, (∀ x ∈ l, x ∉ c.pre i) →
    ∃ o, c.ops[i]? = some o ∧ ((GYes c T o.guard ∧ ∃ v U, OpSem c.P T (c.vw i F) o (c.base + 8 * i) (c.wr i) v U ∧ (c.mem i = false → U = []) ∧ (∀ b, lk U b ≠ none → c.may i b) ∧
      DCh c (l.erase i) (Tput T o.dst v) (upd U F) T' F') ∨ (GNo c T o.guard ∧ DCh c (l.erase i) (Tput T o.dst (.val undef)) F T' F')) := by
  intro l T F T' F' hD
  induction hD with
  | nil T F => intro _ _ i hi; cases hi
  | op h l o v U T F T' F' h1 h2 h3 h4 h5 hrest ih =>
    intro hp hlt i hi hr
    by_cases he : h = i
    · subst he
      rw [List.erase_cons_head]
      exact ⟨o, h1, .inl ⟨h2, v, U, h3, h4, h5, hrest⟩⟩
    · have hil : i ∈ l := (List.mem_cons.1 hi).resolve_left (fun e => he e.symm)
      obtain ⟨p1, p2⟩ := List.pairwise_cons.1 hp
      have hhi := p1 i hil
      have hh := hlt h List.mem_cons_self
      have hii := hlt i (List.mem_cons_of_mem _ hil)
      obtain ⟨s1, s3, s4, s5⟩ := ok_spec hok hhi hii (hr h List.mem_cons_self)
      obtain ⟨oi, g1, g2⟩ := ih p2 (fun x hx => hlt x (List.mem_cons_of_mem _ hx)) i hil (fun x hx => hr x (List.mem_cons_of_mem _ hx))
      have hdh : c.dstOf h = o.dst := by simp [Dc.dstOf, h1]
      have hdi : c.dstOf i = oi.dst := by simp [Dc.dstOf, g1]
      have hrh : c.rds h = rdsOf c.ops o := by simp [Dc.rds, h1]
      have hri : c.rds i = rdsOf c.ops oi := by simp [Dc.rds, g1]
      rw [hdh, hri] at s3
      rw [hdi, hrh] at s4
      rw [hdh, hdi] at s5
      have herase : (h :: l).erase i = h :: l.erase i := List.erase_cons_tail (by simpa using he)
      have hTi : ∀ v' : AV, ∀ x ∈ oi.op.operands, aev T x = aev (Tput T o.dst v') x := fun v' x hx => aev_congr fun t ht => by
        subst ht; rw [Tput_off (fun e => s3 t e (mem_rds hx))]
      have hTh : ∀ v' : AV, ∀ x ∈ o.op.operands, aev (Tput T oi.dst v') x = aev T x := fun v' x hx => aev_congr fun t ht => by
        subst ht; rw [Tput_off (fun e => s4 t e (mem_rds hx))]
      have hcomm : ∀ v', Tput (Tput T o.dst v) oi.dst v' = Tput (Tput T oi.dst v') o.dst v := fun v' => Tput_comm fun x hx => s5 x hx
      have gh : ∀ v', GYes c (Tput T oi.dst v') o.guard := fun v' => by
        unfold GYes at h2 ⊢
        split at h2
        · trivial
        · rename_i j want hg
          obtain ⟨g, q1, q2⟩ := h2
          exact ⟨g, q1, by rw [Tput_off (fun e => s4 g e (guard_rds hg q1))]; exact q2⟩
      rw [herase]
      refine ⟨oi, g1, ?_⟩
      rcases g2 with ⟨k1, vi, Ui, k2, k3, k4, k5⟩ | ⟨k1, k5⟩
      · refine .inl ⟨?_, vi, Ui, ?_, k3, k4, ?_⟩
        · unfold GYes at k1 ⊢
          split at k1
          · trivial
          · rename_i j want hg
            obtain ⟨g, q1, q2⟩ := k1
            exact ⟨g, q1, by rw [Tput_off (fun e => s3 g e (guard_rds hg q1))] at q2; exact q2⟩
        · rw [vw_off hok hii (hr h List.mem_cons_self) s1 h4 (wr_mem hok hii) h5] at k2
          exact k2.congrT (hTi v)
        · have hnot : i ∉ c.pre h := fun e => by have := pre_lt hok hh e; omega
          have hw := vw_off (F := F) hok hh hnot (memOk_comm s1) k3 (wr_mem hok hh) k4
          refine .op h _ o v U _ _ T' F' h1 (gh vi) (by rw [hw]; exact h3.congrT (hTh vi)) h4 h5 ?_
          rw [← hcomm vi]
          have hU : upd U (upd Ui F) = upd Ui (upd U F) := upd_comm fun b hb => by
            cases hlb : lk Ui b with
            | none => rfl
            | some r =>
              exfalso
              have hmh : c.mem h = true := by
                cases hq : c.mem h with
                | true => rfl
                | false => rw [h4 hq] at hb; exact absurd rfl hb
              have hmi : c.mem i = true := by
                cases hq : c.mem i with
                | true => rfl
                | false => rw [k3 hq] at hlb; cases hlb
              exact may_two hok hh hii (by omega) (hr h List.mem_cons_self) hnot s1 hmh hmi (h5 b hb) (k4 b (by rw [hlb]; simp))
          rw [hU]; exact k5
      · refine .inr ⟨?_, ?_⟩
        · unfold GNo at k1 ⊢
          split at k1
          · exact k1
          · rename_i j want hg
            obtain ⟨g, q1, q2⟩ := k1
            exact ⟨g, q1, by rw [Tput_off (fun e => s3 g e (guard_rds hg q1))] at q2; exact q2⟩
        · refine .op h _ o v U _ _ T' F' h1 (gh _) (h3.congrT (hTh _)) h4 h5 ?_
          rw [← hcomm]; exact k5
  | no h l o T F T' F' h1 h2 hrest ih =>
    intro hp hlt i hi hr
    by_cases he : h = i
    · subst he
      rw [List.erase_cons_head]
      exact ⟨o, h1, .inr ⟨h2, hrest⟩⟩
    · have hil : i ∈ l := (List.mem_cons.1 hi).resolve_left (fun e => he e.symm)
      obtain ⟨p1, p2⟩ := List.pairwise_cons.1 hp
      have hhi := p1 i hil
      have hh := hlt h List.mem_cons_self
      have hii := hlt i (List.mem_cons_of_mem _ hil)
      obtain ⟨s1, s3, s4, s5⟩ := ok_spec hok hhi hii (hr h List.mem_cons_self)
      obtain ⟨oi, g1, g2⟩ := ih p2 (fun x hx => hlt x (List.mem_cons_of_mem _ hx)) i hil (fun x hx => hr x (List.mem_cons_of_mem _ hx))
      have hdh : c.dstOf h = o.dst := by simp [Dc.dstOf, h1]
      have hdi : c.dstOf i = oi.dst := by simp [Dc.dstOf, g1]
      have hrh : c.rds h = rdsOf c.ops o := by simp [Dc.rds, h1]
      have hri : c.rds i = rdsOf c.ops oi := by simp [Dc.rds, g1]
      rw [hdh, hri] at s3
      rw [hdi, hrh] at s4
      rw [hdh, hdi] at s5
      have herase : (h :: l).erase i = h :: l.erase i := List.erase_cons_tail (by simpa using he)
      have hTi : ∀ v' : AV, ∀ x ∈ oi.op.operands, aev T x = aev (Tput T o.dst v') x := fun v' x hx => aev_congr fun t ht => by
        subst ht; rw [Tput_off (fun e => s3 t e (mem_rds hx))]
      have hcomm : ∀ v v', Tput (Tput T o.dst v) oi.dst v' = Tput (Tput T oi.dst v') o.dst v := fun v v' => Tput_comm fun x hx => s5 x hx
      have gh : ∀ v', GNo c (Tput T oi.dst v') o.guard := fun v' => by
        unfold GNo at h2 ⊢
        split at h2
        · exact h2
        · rename_i j want hg
          obtain ⟨g, q1, q2⟩ := h2
          exact ⟨g, q1, by rw [Tput_off (fun e => s4 g e (guard_rds hg q1))]; exact q2⟩
      rw [herase]
      refine ⟨oi, g1, ?_⟩
      rcases g2 with ⟨k1, vi, Ui, k2, k3, k4, k5⟩ | ⟨k1, k5⟩
      · refine .inl ⟨?_, vi, Ui, k2.congrT (hTi _), k3, k4, ?_⟩
        · unfold GYes at k1 ⊢
          split at k1
          · trivial
          · rename_i j want hg
            obtain ⟨g, q1, q2⟩ := k1
            exact ⟨g, q1, by rw [Tput_off (fun e => s3 g e (guard_rds hg q1))] at q2; exact q2⟩
        · refine .no h _ o _ _ T' F' h1 (gh vi) ?_
          rw [← hcomm]; exact k5
      · refine .inr ⟨?_, ?_⟩
        · unfold GNo at k1 ⊢
          split at k1
          · exact k1
          · rename_i j want hg
            obtain ⟨g, q1, q2⟩ := k1
            exact ⟨g, q1, by rw [Tput_off (fun e => s3 g e (guard_rds hg q1))] at q2; exact q2⟩
        · refine .no h _ o _ _ T' F' h1 (gh _) ?_
          rw [← hcomm]; exact k5
/-- The state while a region is under way: the operations of l are still to come. -/
structure RF (E : Emb) (S : Nat → Prop) (n0 nt : Nat) (c : Dc) (l : List Nat) (T : Nat → Option AV) (F : Hp) (a : Act) (w : World) : Prop where
  rt : ∀ t v, T t = some v → Rel E v (a.tmps.getD t undef)
  nt : a.tmps.size = nt
  df : a.defers = []
  rh : RH E S F w
  fr : ∀ b, c.base ≤ b → ((b - c.base) / 8 ∈ l ∨ c.ops.length ≤ (b - c.base) / 8) → E b = none
  gl : ∀ g, g < 400 → ∃ s, E g = some (g, s)
  hS : ∀ k, n0 ≤ k → S k
  h0 : n0 ≤ w.heap.size
theorem RF.aev {E : Emb} {S : Nat → Prop} {n0 nt : Nat} {l : List Nat} {T : Nat → Option AV} {F : Hp} {a : Act} {w : World} (h : RF E S n0 nt c l T F a w) (x : Operand) (u : AV) (hx : aev T x = some u) : Rel E u (a.eval x) := by
  cases x with
  | tmp t => exact h.rt t u hx
  | const v => exact rel_cst E v u hx
  | global g =>
    simp only [Go.Proofs.YtdpdmgbdipokdaaDoor.aev] at hx
    split at hx
    · rename_i hg
      injection hx with hx; subst hx
      obtain ⟨s, hs⟩ := h.gl g (blt_true hg)
      exact .ptr g 0 g s hs
    · cases hx
  | func f => simp only [Go.Proofs.YtdpdmgbdipokdaaDoor.aev, Option.some.injEq] at hx; subst hx; exact .val _
theorem RF.put {E : Emb} {S : Nat → Prop} {n0 nt : Nat} {l : List Nat} {T : Nat → Option AV} {F : Hp} {a : Act} {w : World} (h : RF E S n0 nt c l T F a w) {d : Option Tmp} (hd : ∀ x, d = some x → x < nt) {v : AV} {y : Value} (hv : Rel E v y) : RF E S n0 nt c l (Tput T d v) F (a.put d y) w := by
  cases d with
  | none => exact h
  | some d =>
    refine ⟨fun t u ht => ?_, ?_, h.df, h.rh, h.fr, h.gl, h.hS, h.h0⟩
    · rw [put_getD (by rw [h.nt]; exact hd d rfl)]
      by_cases e : d = t
      · subst e; rw [Tput_at] at ht; injection ht with ht; subst ht; rw [if_pos rfl]; exact hv
      · rw [Tput_same e] at ht; rw [if_neg e]; exact h.rt t u ht
    · simp [Act.put, h.nt]
theorem yielded_F {E : Emb} {S : Nat → Prop} {n0 nt : Nat} {l : List Nat} {T : Nat → Option AV} {F : Hp} {a : Act} {w : World} (hR : RF E S n0 nt c l T F a w) {j g : Nat} {b : Bool} (h1 : (c.ops[j]?).bind (·.dst) = some g) (h2 : T g = some (.bool b)) : yielded c.ops.toArray a.tmps j = some b := by
  have h3 := (hR.rt g _ h2).bool_inv
  have h4 : a.tmps[g]? = some (.bool b) := by
    rw [Array.getD_eq_getD_getElem?] at h3
    cases hq : a.tmps[g]? with
    | none => rw [hq] at h3; cases h3
    | some y => rw [hq] at h3; simp at h3; rw [h3]
  unfold yielded
  rw [List.getElem?_toArray, h1]
  simp [h4]
theorem yielded_U {E : Emb} {S : Nat → Prop} {n0 nt : Nat} {l : List Nat} {T : Nat → Option AV} {F : Hp} {a : Act} {w : World} (hR : RF E S n0 nt c l T F a w) {j g : Nat} (h1 : (c.ops[j]?).bind (·.dst) = some g) (h2 : T g = some (.val undef)) : yielded c.ops.toArray a.tmps j = none := by
  have h3 := (hR.rt g _ h2).val_inv
  unfold yielded
  rw [List.getElem?_toArray, h1]
  rw [Array.getD_eq_getD_getElem?] at h3
  cases hq : a.tmps[g]? with
  | none => simp [hq]
  | some y => rw [hq] at h3; simp at h3; subst h3; simp [hq, undef]
theorem GYes.ok {E : Emb} {S : Nat → Prop} {n0 nt : Nat} {l : List Nat} {T : Nat → Option AV} {F : Hp} {a : Act} {w : World} {o : Oper} (h : GYes c T o.guard) (hR : RF E S n0 nt c l T F a w) : Region.wanted o (yielded c.ops.toArray a.tmps) = true := by
  unfold Region.wanted
  unfold GYes at h
  split
  · rfl
  · rename_i j want hg
    rw [hg] at h
    obtain ⟨g, h1, h2⟩ := h
    rw [yielded_F hR h1 h2]; simp
theorem GNo.ok {E : Emb} {S : Nat → Prop} {n0 nt : Nat} {l : List Nat} {T : Nat → Option AV} {F : Hp} {a : Act} {w : World} {o : Oper} (h : GNo c T o.guard) (hR : RF E S n0 nt c l T F a w) : Region.wanted o (yielded c.ops.toArray a.tmps) = false := by
  unfold Region.wanted
  unfold GNo at h
  split
  · rename_i hg; rw [hg] at h; exact h.elim
  · rename_i j want hg
    rw [hg] at h
    obtain ⟨g, h1, h2 | h2⟩ := h
    · rw [yielded_F hR h1 h2]; simp
    · rw [yielded_U hR h1 h2]; rfl
theorem vw_le (i : Nat) (F : Hp) : ∀ b k, c.vw i F b = some k → F b = some k := by
  intro b k h
  unfold Dc.vw at h
  cases hf : c.feet i with
  | some p =>
    rw [hf] at h
    simp only at h
    cases hc : (p.1 ++ p.2).contains b with
    | true => rw [hc] at h; exact h
    | false => rw [hc] at h; cases h
  | none =>
  rw [hf] at h
  simp only at h
  cases hw : c.wr i with
  | true => rw [hw] at h; exact h
  | false =>
    rw [hw] at h
    cases hm : c.mem i with
    | true =>
      rw [hm] at h
      simp only at h
      cases hh : c.hidden i b with
      | true => rw [hh] at h; cases h
      | false => rw [hh] at h; exact h
    | false => rw [hm] at h; cases h
theorem vw_wr {i : Nat} {F : Hp} (h : c.wr i = true) : F = c.vw i F := by
  unfold Dc.vw
  rw [wr_feet h]
  simp only [h]
theorem edges_lt (hok : c.ok = true) {j : Nat} {o : Oper} (hj : c.ops[j]? = some o) {e : Edge} (he : e ∈ o.after.toList) (hb : Region.binds .any e = true) : e.on < j := by
  have hlt : j < c.ops.length := (List.getElem?_eq_some_iff.1 hj).1
  have h1 := List.all_eq_true.1 hok j (List.mem_range.2 hlt)
  simp only [Bool.and_eq_true, hj] at h1
  have h2 := List.all_eq_true.1 h1.1.2.1.1 e he
  rw [hb] at h2
  exact blt_true (by simpa using h2)
theorem pre_edge (hok : c.ok = true) {j : Nat} {o : Oper} (hj : c.ops[j]? = some o) {x : Nat} (hx : x ∈ c.pre j) : ∃ e ∈ o.after.toList, Region.binds .any e = true ∧ (e.on = x ∨ x ∈ c.pre e.on) := by
  have hlt : j < c.ops.length := (List.getElem?_eq_some_iff.1 hj).1
  have h1 := List.all_eq_true.1 hok j (List.mem_range.2 hlt)
  simp only [Bool.and_eq_true, hj] at h1
  have h2 := List.all_eq_true.1 h1.1.2.1.2 x hx
  obtain ⟨e, he, h3⟩ := List.any_eq_true.1 h2
  simp only [Bool.and_eq_true, Bool.or_eq_true] at h3
  refine ⟨e, he, h3.1, ?_⟩
  rcases h3.2 with h4 | h4
  · exact .inl (Nat.eq_of_beq_eq_true h4)
  · exact .inr (List.contains_iff_mem.1 h4)
/-- The bindings' targets are done before: so is all that surely comes before. -/
def Down (c : Dc) (l : List Nat) : Prop := ∀ i o, c.ops[i]? = some o → i ∉ l → ∀ e ∈ o.after.toList, Region.binds .any e = true → e.on ∉ l
theorem Down.pre (hok : c.ok = true) {l : List Nat} (hD : Down c l) : ∀ (n i : Nat) (o : Oper), i ≤ n → c.ops[i]? = some o → (∀ e ∈ o.after.toList, Region.binds .any e = true → e.on ∉ l) → ∀ x ∈ c.pre i, x ∉ l := by
  intro n
  induction n with
  | zero =>
    intro i o hi ho he x hx
    have hlt : i < c.ops.length := (List.getElem?_eq_some_iff.1 ho).1
    have := pre_lt hok hlt hx; omega
  | succ n ih =>
    intro i o hi ho he x hx
    obtain ⟨e, h1, h2, h3⟩ := pre_edge hok ho hx
    have hel := edges_lt hok ho h1 h2
    have hlt : i < c.ops.length := (List.getElem?_eq_some_iff.1 ho).1
    have henot := he e h1 h2
    rcases h3 with rfl | h3
    · exact henot
    · have heo : c.ops[e.on]? = some c.ops[e.on] := List.getElem?_eq_getElem (by omega)
      exact ih e.on _ (by omega) heo (fun e' h4 h5 => hD e.on _ heo henot e' h4 h5) x h3
def Listed (c : Dc) (l : List Nat) (listed : Array Bool) : Prop := listed.size = c.ops.length ∧ ∀ i, i < c.ops.length → (listed[i]? = some true ↔ i ∉ l) ∧ (listed[i]? = some false ↔ i ∈ l)
theorem ready_spec {l : List Nat} {listed : Array Bool} (hL : Listed c l listed) {i : Nat} (h : i ∈ Region.ready .any c.ops.toArray listed) : i < c.ops.length ∧ i ∈ l ∧ ∀ o, c.ops[i]? = some o → ∀ e ∈ o.after.toList, Region.binds .any e = true → e.on < c.ops.length → e.on ∉ l := by
  unfold Region.ready at h
  rw [List.mem_filter] at h
  obtain ⟨h1, h2⟩ := h
  have hlt : i < c.ops.length := by simpa using List.mem_range.1 h1
  simp only [Bool.and_eq_true, Bool.not_eq_true'] at h2
  have hsz : i < listed.size := by rw [hL.1]; exact hlt
  have hfa : listed[i]? = some false := by
    have := h2.1
    rw [Array.getD_eq_getD_getElem?, Array.getElem?_eq_getElem hsz] at this
    rw [Array.getElem?_eq_getElem hsz]; simpa using this
  refine ⟨hlt, (hL.2 i hlt).2.1 hfa, fun o ho e he hb hon => ?_⟩
  have h3 := h2.2
  rw [List.getElem?_toArray, ho] at h3
  simp only [Option.map_some, Option.getD_some, Array.all_eq_true'] at h3
  have h4 := h3 e (by simpa using he)
  rw [hb] at h4
  simp only [Bool.not_true, Bool.false_or] at h4
  have hsz2 : e.on < listed.size := by rw [hL.1]; exact hon
  rw [Array.getD_eq_getD_getElem?, Array.getElem?_eq_getElem hsz2] at h4
  exact (hL.2 e.on hon).1.1 (by rw [Array.getElem?_eq_getElem hsz2]; simpa using h4)
theorem ready_head (hok : c.ok = true) {i : Nat} {l : List Nat} {listed : Array Bool} (hL : Listed c (i :: l) listed) (hp : (i :: l).Pairwise (· < ·)) (hlt : i < c.ops.length) : i ∈ Region.ready .any c.ops.toArray listed := by
  unfold Region.ready
  rw [List.mem_filter]
  refine ⟨by simpa using hlt, ?_⟩
  have hsz : i < listed.size := by rw [hL.1]; exact hlt
  have hfa := (hL.2 i hlt).2.2 List.mem_cons_self
  simp only [Bool.and_eq_true, Bool.not_eq_true']
  constructor
  · rw [Array.getD_eq_getD_getElem?, hfa]; rfl
  · rw [List.getElem?_toArray, List.getElem?_eq_getElem hlt]
    simp only [Option.map_some, Option.getD_some, Array.all_eq_true']
    intro e he
    cases hb : Region.binds .any e with
    | false => rfl
    | true =>
      have hel := edges_lt hok (List.getElem?_eq_getElem hlt) (by simpa using he) hb
      have hn : e.on ∉ i :: l := fun hm => by
        rcases List.mem_cons.1 hm with h | h
        · omega
        · have := (List.pairwise_cons.1 hp).1 _ h; omega
      have := (hL.2 e.on (by omega)).1.2 hn
      simp only [Bool.not_true, Bool.false_or]
      rw [Array.getD_eq_getD_getElem?, this]; rfl
theorem chain_any {E0 : Emb} {S : Nat → Prop} {n0 nt : Nat} {Q : Exit → Act → World → Prop} (hok : c.ok = true) (hnm : 1000 ≤ c.base) (hdst : ∀ o ∈ c.ops, ∀ x, o.dst = some x → x < nt) (T' : Nat → Option AV) (F' : Hp) (w0 : World)
    (hQ : ∀ E a w, RF E S n0 nt c [] T' F' a w → ((∀ b, b < c.base → E b = E0 b) ∧ Emb.dx S E0 E) → Fr S w0 w → Q .normal a w) :
    ∀ (fuel : Nat) (l : List Nat) (listed : Array Bool) (T : Nat → Option AV) (F : Hp) (E : Emb) (a : Act) (w : World), l.length = fuel → l.Pairwise (· < ·) → (∀ x ∈ l, x < c.ops.length) → Listed c l listed → Down c l → DCh c l T F T' F' → RF E S n0 nt c l T F a w → ((∀ b, b < c.base → E b = E0 b) ∧ Emb.dx S E0 E) → Fr S w0 w →
      wpAny c.P .any c.ops.toArray Q fuel listed a w := by
  intro fuel
  induction fuel with
  | zero =>
    intro l listed T F E a w hlen hp hlt hL hD hch hR hE hF
    obtain rfl := List.eq_nil_of_length_eq_zero hlen
    refine ⟨List.eq_nil_iff_forall_not_mem.2 fun i hi => ?_, ?_⟩
    · have := (ready_spec hL hi).2.1; cases this
    · cases hch; exact hQ E a w hR hE hF
  | succ fuel ih =>
    intro l listed T F E a w hlen hp hlt hL hD hch hR hE hF
    refine ⟨fun h0 => ?_, fun i hi => ?_⟩
    · cases l with
      | nil => simp at hlen
      | cons x l =>
        have := ready_head hok hL hp (hlt x List.mem_cons_self)
        rw [h0] at this; cases this
    · obtain ⟨hil, him, hed⟩ := ready_spec hL hi
      have hio : c.ops[i]? = some c.ops[i] := List.getElem?_eq_getElem hil
      have hed' : ∀ e ∈ c.ops[i].after.toList, Region.binds .any e = true → e.on ∉ l := fun e he hb => hed _ hio e he hb (by have := edges_lt hok hio he hb; omega)
      have hpre := hD.pre hok i i _ (Nat.le_refl _) hio hed'
      obtain ⟨o, ho, hcase⟩ := hch.take hok l T F T' F' hp hlt i him (fun x hx hm => hpre x hm hx)
      have eo : o = c.ops[i] := by rw [hio] at ho; injection ho with ho; exact ho.symm
      have hdo : ∀ x, o.dst = some x → x < nt := fun x hx => hdst o (by rw [eo]; exact List.getElem_mem hil) x hx
      have hnd : l.Nodup := hp.imp fun h => Nat.ne_of_lt h
      have hme : ∀ j, j ∈ l.erase i ↔ j ≠ i ∧ j ∈ l := fun j => hnd.mem_erase_iff
      have hlen' : (l.erase i).length = fuel := by rw [List.length_erase_of_mem him]; omega
      have hp' : (l.erase i).Pairwise (· < ·) := hp.sublist List.erase_sublist
      have hlt' : ∀ x ∈ l.erase i, x < c.ops.length := fun x hx => hlt x ((hme x).1 hx).2
      have hL' : Listed c (l.erase i) (listed.setIfInBounds i true) := by
        refine ⟨by simpa using hL.1, fun j hj => ?_⟩
        rw [Array.getElem?_setIfInBounds, hme]
        by_cases e : i = j
        · subst e; rw [if_pos rfl, if_pos (by rw [hL.1]; exact hj)]; simp
        · rw [if_neg e]
          have := hL.2 j hj
          have hne : j ≠ i := fun h => e h.symm
          simp only [ne_eq, hne, not_false_eq_true, true_and]
          exact this
      have hD' : Down c (l.erase i) := fun j oj hj hn e he hb hm => by
        have hm2 := ((hme _).1 hm).2
        by_cases ej : j = i
        · subst ej
          rw [hio] at hj; injection hj with hj; subst hj
          exact hed' e he hb hm2
        · exact hD j oj hj (fun h => hn ((hme j).2 ⟨ej, h⟩)) e he hb hm2
      have hops : c.ops.toArray[i]? = some o := by rw [List.getElem?_toArray]; exact ho
      unfold wpOp
      simp only [hops]
      rcases hcase with ⟨hg, v, U, hs, hU1, hU2, hrest⟩ | ⟨hg, hrest⟩
      · rw [if_pos (hg.ok hR)]
        refine .inl ?_
        refine hs E S n0 F a w hR.hS hR.h0 (by omega) hR.gl (fun hw => vw_wr hw) (vw_le i F) (fun x _ u hu => hR.aev x u hu) hR.rh (fun b h1 h2 => hR.fr b (by omega) (.inl (by rw [show (b - c.base) / 8 = i by omega]; exact him))) _ _ fun y w' E' hE' hX hv hH hF' => ?_
        have hle : ∀ b p, E b = some p → E' b = some p := fun b p hp => by
          rw [hE' b (.inr (fun hb => by rw [hR.fr b (by omega) (.inl (by rw [show (b - c.base) / 8 = i by omega]; exact him))] at hp; cases hp))]; exact hp
        refine ih (l.erase i) _ _ _ E' _ w' hlen' hp' hlt' hL' hD' hrest (RF.put ?_ hdo hv) ⟨fun b hb => (hE' b (.inr (by omega))).trans (hE.1 b hb), hE.2.trans hX⟩ (hF.trans hF')
        refine ⟨fun t u ht => (hR.rt t u ht).mono ⟨hle, hX.dle⟩, hR.nt, hR.df, hH, fun b hb hor => ?_, fun g hg => (hR.gl g hg).imp fun s hs => hle _ _ hs, hR.hS, Nat.le_trans hR.h0 hF'.size⟩
        have hnr : ¬ (c.base + 8 * i ≤ b ∧ b < c.base + 8 * i + 8) := fun hr => by
          have e : (b - c.base) / 8 = i := by omega
          rw [e] at hor
          rcases hor with h | h
          · exact ((hme i).1 h).1 rfl
          · omega
        rw [hE' b (.inr hnr)]
        exact hR.fr b hb (hor.imp (fun h => ((hme _).1 h).2) id)
      · rw [if_neg (by rw [hg.ok hR]; simp)]
        refine ih (l.erase i) _ _ _ E _ w hlen' hp' hlt' hL' hD' hrest (RF.put ?_ hdo (.val _)) hE hF
        exact ⟨hR.rt, hR.nt, hR.df, hR.rh, fun b hb hor => hR.fr b hb (hor.imp (fun h => ((hme _).1 h).2) id), hR.gl, hR.hS, hR.h0⟩
end
/-- A region whose order is drawn. -/
theorem Ev.draw {P : Program} {nt id : Nat} {ops : List Oper} {st : St} {post : Exit → St → Prop} (cl : List (List Nat)) (ms ws : List Nat) (ft : List (Nat × (List Nat × List Nat))) (hm : P.follows .mixedOrders = true) (hok : Dc.ok ⟨P, ops, st.nx, cl, ms, ws, ft⟩ = true) (hdst : (ops.all fun o => match o.dst with | some x => Nat.blt x nt | none => true) = true)
    (Tl : List (Nat × AV)) (Hl : List (Nat × Option ABlk)) (h : DCh ⟨P, ops, st.nx, cl, ms, ws, ft⟩ (List.range ops.length) (lk st.T) (hget st.H) (lk Tl) (hget Hl)) (hp : post .normal ⟨Tl, Hl, st.nx + 8 * ops.length⟩) : Ev P nt (.region id ops.toArray true) st post := by
  intro E S n0 a w hn hR
  refine wp_region_any hm ?_
  have h0 : ∀ E' a' w', RF E' S n0 nt ⟨P, ops, st.nx, cl, ms, ws, ft⟩ [] (lk Tl) (hget Hl) a' w' → ((∀ b, b < st.nx → E' b = E b) ∧ Emb.dx S E E') → Fr S w w' → Done E S n0 nt (fun e st' => 1000 ≤ st'.nx ∧ post e st') w .normal a' w' := fun E' a' w' hR' hE hF =>
    ⟨⟨Tl, Hl, st.nx + 8 * ops.length⟩, E', ⟨by show 1000 ≤ st.nx + 8 * ops.length; omega, hp⟩, ⟨fun b hb => hE.1 b (by omega), hE.2⟩, ⟨hR'.rt, hR'.nt, hR'.df, hR'.rh, fun b hb => hR'.fr b (by show st.nx ≤ b; have : st.nx + 8 * ops.length ≤ b := hb; omega) (.inr (by show ops.length ≤ (b - st.nx) / 8; have : st.nx + 8 * ops.length ≤ b := hb; omega)), hR'.gl, hR'.hS, hR'.h0⟩, hF⟩
  have hr := chain_any (c := ⟨P, ops, st.nx, cl, ms, ws, ft⟩) (E0 := E) (nt := nt) hok hn (fun o ho x hx => by
    have := List.all_eq_true.1 hdst o ho
    rw [hx] at this; exact blt_true this) (lk Tl) (hget Hl) w h0 ops.length (List.range ops.length) (Array.replicate ops.length false) (lk st.T) (hget st.H) E a w.drew (by simp) List.pairwise_lt_range (fun x hx => by simpa using hx)
    ⟨by simp, fun i hi => by have hi' : i < ops.length := hi; rw [Array.getElem?_replicate, if_pos hi']; simp [hi']⟩ (fun i o ho hn => by exact absurd (List.mem_range.2 (List.getElem?_eq_some_iff.1 ho).1) hn) h
    ⟨hR.rt, hR.nt, hR.df, hR.rh.drew, fun b hb _ => hR.fr b hb, hR.gl, hR.hS, hR.h0⟩ ⟨fun _ _ => rfl, Emb.dx_refl _ _⟩ (Fr.refl S w).drew
  simpa using hr
section
variable {c : Dc} {i : Nat} {l : List Nat} {T : List (Nat × AV)} {H : List (Nat × Option ABlk)} {T' : Nat → Option AV} {F' : Hp} {d : Nat} {op : Op} {ty : TypeId} {ps : String} {af : Array Edge} {gd : Option (Nat × Bool)} {v : AV} {U : List (Nat × Option ABlk)}
/-- An operation that makes no block. -/
theorem DCh.q (hi : c.ops[i]? = some ⟨some d, op, ty, ps, af, gd⟩) (h : OpSem c.P (lk T) (c.vw i (hget H)) ⟨some d, op, ty, ps, af, gd⟩ (c.base + 8 * i) (c.wr i) v []) (hg : GYes c (lk T) gd) (hr : DCh c l (lk ((d, v) :: T)) (hget H) T' F') : DCh c (i :: l) (lk T) (hget H) T' F' :=
  .op i l _ v [] _ _ _ _ hi hg h (fun _ => rfl) (fun _b hb => absurd rfl hb) hr
/-- One that makes blocks, or writes. -/
theorem DCh.a (hi : c.ops[i]? = some ⟨some d, op, ty, ps, af, gd⟩) (h : OpSem c.P (lk T) (c.vw i (hget H)) ⟨some d, op, ty, ps, af, gd⟩ (c.base + 8 * i) (c.wr i) v U) (hg : GYes c (lk T) gd) (hm : c.mem i = true)
    (hU : ∀ b, lk U b ≠ none → c.may i b) (hr : DCh c l (lk ((d, v) :: T)) (hget (U ++ H)) T' F') : DCh c (i :: l) (lk T) (hget H) T' F' :=
  .op i l _ v U _ _ _ _ hi hg h (fun e => by rw [hm] at e; cases e) hU (by rw [upd_hget]; exact hr)
/-- One that writes, and yields nothing. -/
theorem DCh.w (hi : c.ops[i]? = some ⟨none, op, ty, ps, af, gd⟩) (h : OpSem c.P (lk T) (c.vw i (hget H)) ⟨none, op, ty, ps, af, gd⟩ (c.base + 8 * i) (c.wr i) v U) (hg : GYes c (lk T) gd) (hm : c.mem i = true)
    (hU : ∀ b, lk U b ≠ none → c.may i b) (hr : DCh c l (lk T) (hget (U ++ H)) T' F') : DCh c (i :: l) (lk T) (hget H) T' F' :=
  .op i l _ v U _ _ _ _ hi hg h (fun e => by rw [hm] at e; cases e) hU (by rw [upd_hget]; exact hr)
theorem DCh.n (hi : c.ops[i]? = some ⟨some d, op, ty, ps, af, gd⟩) (hg : GNo c (lk T) gd) (hr : DCh c l (lk ((d, .val undef) :: T)) (hget H) T' F') : DCh c (i :: l) (lk T) (hget H) T' F' :=
  .no i l _ _ _ _ _ hi hg hr
end
/-- The rest of a drawn region, and what is to hold behind it. -/
def DK (c : Dc) (l : List Nat) (T : List (Nat × AV)) (H : List (Nat × Option ABlk)) (K : St → Prop) : Prop := ∃ Tl Hl, DCh c l (lk T) (hget H) (lk Tl) (hget Hl) ∧ K ⟨Tl, Hl, c.base + 8 * c.ops.length⟩
theorem Ev.drawnF {P : Program} {nt id : Nat} {ops : List Oper} {T : List (Nat × AV)} {H : List (Nat × Option ABlk)} {nx : Nat} {post : Exit → St → Prop} (cl : List (List Nat)) (ms ws : List Nat) (ft : List (Nat × (List Nat × List Nat))) (hm : P.follows .mixedOrders = true) (hok : Dc.ok ⟨P, ops, nx, cl, ms, ws, ft⟩ = true) (hdst : (ops.all fun o => match o.dst with | some x => Nat.blt x nt | none => true) = true)
    (h : DK ⟨P, ops, nx, cl, ms, ws, ft⟩ (List.range ops.length) T H (post .normal)) : Ev P nt (.region id ops.toArray true) ⟨T, H, nx⟩ post := by
  obtain ⟨Tl, Hl, h1, h2⟩ := h
  exact .draw cl ms ws ft hm hok hdst Tl Hl h1 h2
theorem Ev.drawn {P : Program} {nt id : Nat} {ops : List Oper} {T : List (Nat × AV)} {H : List (Nat × Option ABlk)} {nx : Nat} {post : Exit → St → Prop} (cl : List (List Nat)) (ms ws : List Nat) (hm : P.follows .mixedOrders = true) (hok : Dc.ok ⟨P, ops, nx, cl, ms, ws, []⟩ = true) (hdst : (ops.all fun o => match o.dst with | some x => Nat.blt x nt | none => true) = true)
    (h : DK ⟨P, ops, nx, cl, ms, ws, []⟩ (List.range ops.length) T H (post .normal)) : Ev P nt (.region id ops.toArray true) ⟨T, H, nx⟩ post :=
  .drawnF cl ms ws [] hm hok hdst h
namespace DK
variable {c : Dc} {i : Nat} {l : List Nat} {T : List (Nat × AV)} {H : List (Nat × Option ABlk)} {K : St → Prop} {d : Nat} {op : Op} {ty : TypeId} {ps : String} {af : Array Edge} {gd : Option (Nat × Bool)} {v : AV} {U : List (Nat × Option ABlk)} {b : Bool}
theorem nil (h : K ⟨T, H, c.base + 8 * c.ops.length⟩) : DK c [] T H K := ⟨T, H, .nil _ _, h⟩
theorem q (hi : c.ops[i]? = some ⟨some d, op, ty, ps, af, gd⟩) (h : OpSem c.P (lk T) (c.vw i (hget H)) ⟨some d, op, ty, ps, af, gd⟩ (c.base + 8 * i) (c.wr i) v []) (hg : GYes c (lk T) gd) (hr : DK c l ((d, v) :: T) H K) : DK c (i :: l) T H K := by
  obtain ⟨Tl, Hl, h1, h2⟩ := hr; exact ⟨Tl, Hl, .q hi h hg h1, h2⟩
theorem a (hi : c.ops[i]? = some ⟨some d, op, ty, ps, af, gd⟩) (h : OpSem c.P (lk T) (c.vw i (hget H)) ⟨some d, op, ty, ps, af, gd⟩ (c.base + 8 * i) (c.wr i) v U) (hg : GYes c (lk T) gd) (hm : c.mem i = true)
    (hU : (U.all fun p => (c.wr i && Nat.blt p.1 (c.base + 8 * i + 8)) || (Nat.ble (c.base + 8 * i) p.1 && Nat.blt p.1 (c.base + 8 * i + 8)) || (match c.feet i with | some q => q.2.contains p.1 | none => false)) = true) (hr : DK c l ((d, v) :: T) (U ++ H) K) : DK c (i :: l) T H K := by
  obtain ⟨Tl, Hl, h1, h2⟩ := hr
  refine ⟨Tl, Hl, .a hi h hg hm (fun b hb => ?_) h1, h2⟩
  cases hl : lk U b with
  | none => exact absurd hl hb
  | some r =>
    have := List.all_eq_true.1 hU _ (lk_mem hl)
    simp only [Bool.or_eq_true, Bool.and_eq_true] at this
    rcases this with (h | h) | h
    · exact .inl ⟨h.1, blt_true h.2⟩
    · exact .inr (.inl ⟨Nat.le_of_ble_eq_true h.1, blt_true h.2⟩)
    · cases hf : c.feet i with
      | none => rw [hf] at h; cases h
      | some q => rw [hf] at h; exact .inr (.inr ⟨q, hf, List.contains_iff_mem.1 h⟩)
theorem w (hi : c.ops[i]? = some ⟨none, op, ty, ps, af, gd⟩) (h : OpSem c.P (lk T) (c.vw i (hget H)) ⟨none, op, ty, ps, af, gd⟩ (c.base + 8 * i) (c.wr i) v U) (hg : GYes c (lk T) gd) (hm : c.mem i = true)
    (hU : (U.all fun p => (c.wr i && Nat.blt p.1 (c.base + 8 * i + 8)) || (Nat.ble (c.base + 8 * i) p.1 && Nat.blt p.1 (c.base + 8 * i + 8)) || (match c.feet i with | some q => q.2.contains p.1 | none => false)) = true) (hr : DK c l T (U ++ H) K) : DK c (i :: l) T H K := by
  obtain ⟨Tl, Hl, h1, h2⟩ := hr
  refine ⟨Tl, Hl, .w hi h hg hm (fun b hb => ?_) h1, h2⟩
  cases hl : lk U b with
  | none => exact absurd hl hb
  | some r =>
    have := List.all_eq_true.1 hU _ (lk_mem hl)
    simp only [Bool.or_eq_true, Bool.and_eq_true] at this
    rcases this with (h | h) | h
    · exact .inl ⟨h.1, blt_true h.2⟩
    · exact .inr (.inl ⟨Nat.le_of_ble_eq_true h.1, blt_true h.2⟩)
    · cases hf : c.feet i with
      | none => rw [hf] at h; cases h
      | some q => rw [hf] at h; exact .inr (.inr ⟨q, hf, List.contains_iff_mem.1 h⟩)
theorem no (hi : c.ops[i]? = some ⟨some d, op, ty, ps, af, gd⟩) (hg : GNoB c (lk T) gd) (hr : DK c l ((d, .val undef) :: T) H K) : DK c (i :: l) T H K := by
  obtain ⟨Tl, Hl, h1, h2⟩ := hr; exact ⟨Tl, Hl, .n hi hg.no h1, h2⟩
theorem noU (hi : c.ops[i]? = some ⟨some d, op, ty, ps, af, gd⟩) (hg : GNoU c (lk T) gd) (hr : DK c l ((d, .val undef) :: T) H K) : DK c (i :: l) T H K := by
  obtain ⟨Tl, Hl, h1, h2⟩ := hr; exact ⟨Tl, Hl, .n hi hg.no h1, h2⟩
theorem split (h1 : b = true → DK c l ((d, .bool true) :: T) H K) (h2 : b = false → DK c l ((d, .bool false) :: T) H K) : DK c l ((d, .bool b) :: T) H K := by
  cases b with
  | true => exact h1 rfl
  | false => exact h2 rfl
theorem know {b' : Bool} (hb : b = b') (h : DK c l ((d, .bool b') :: T) H K) : DK c l ((d, .bool b) :: T) H K := hb ▸ h
theorem as (v' : AV) (hv : v = v') (h : DK c l ((d, v') :: T) H K) : DK c l ((d, v) :: T) H K := hv ▸ h
end DK
end Go.Proofs.YtdpdmgbdipokdaaDoor
namespace Go.Proofs.YtdpdmgbdipokdaaDoor
open Go.RowKit
section
variable {P : Program} {T : Nat → Option AV} {H : Hp} {nm : Nat} {wr : Bool} {v u u1 u2 c c' : AV} {d : Option Tmp} {ty : TypeId} {ps : String} {af : Array Edge} {gd : Option (Nat × Bool)} {t t' t2 e : TypeId} {x y : Operand} {dd d2 : TypeDesc} {b o n z i m b2 o2 : Nat} {k k2 : ABlk}
theorem parts_list {a : AV} (h : a.parts.isSome = true) : a.parts = some a.list := by
  cases hq : a.parts with
  | none => rw [hq] at h; cases h
  | some cs => simp [AV.list, hq]
theorem put_parts {a a' w : AV} {i : Nat} (h : a.put i w = some a') : a'.parts.isSome = true := by
  unfold AV.put at h
  split at h
  · split at h
    · injection h with h; subst h; rfl
    · cases h
  all_goals first
    | (injection h with h; subst h; rfl)
    | cases h
def putAll : AV → List (Nat × AV) → Option AV
  | a, [] => some a
  | a, (i, w) :: r => match a.put i w with
    | some a' => putAll a' r
    | none => none
/-- The parts of a literal, as they are known. -/
def PartsEv (T : Nat → Option AV) (n : Nat) : List (Nat × Operand) → List (Nat × AV) → Prop
  | [], [] => True
  | (i, x) :: r, (j, w) :: us => i = j ∧ aev T x = some w ∧ Nat.blt i n = true ∧ PartsEv T n r us
  | _, _ => False
theorem fill_row {E : Emb} {a : Act} {n : Nat} : ∀ (l : List (Nat × Operand)) (us : List (Nat × AV)) (r r' : AV) (cells : Array Value), PartsEv T n l us → (∀ p ∈ l, ∀ w, aev T p.2 = some w → Rel E w (a.eval p.2)) → r.parts.isSome = true → putAll r us = some r' → Rel E r (.agg cells) → n ≤ cells.size →
    ∃ cells', Instr.fill (fun i => some (i * 1, 1)) cells (l.map fun p => (p.1, a.eval p.2)) = some cells' ∧ Rel E r' (.agg cells')
  | [], [], r, r', cells, _, _, _, hp, hr, _ => by simp only [putAll, Option.some.injEq] at hp; subst hp; exact ⟨cells, rfl, hr⟩
  | [], _ :: _, _, _, _, h, _, _, _, _, _ => h.elim
  | _ :: _, [], _, _, _, h, _, _, _, _, _ => h.elim
  | (i, x) :: l, (j, w) :: us, r, r', cells, h, hop, hs, hp, hr, hn => by
    obtain ⟨rfl, h1, h2, h3⟩ := h
    have hlt := blt_true h2
    simp only [putAll] at hp
    cases hq : r.put i w with
    | none => rw [hq] at hp; cases hp
    | some r1 =>
      rw [hq] at hp
      obtain ⟨p1, p2, _⟩ := put_list hq
      have hrel := hop (i, x) List.mem_cons_self w h1
      have hone := hrel.one p2
      have hcells : (a.eval x).cells = #[a.eval x] := by
        cases hq : a.eval x <;> first | rfl | (rw [hq] at hone; cases hone)
      obtain ⟨ds, q1, q2, q3, q4⟩ := hr.agg_inv (parts_list hs)
      injection q1 with q1; subst q1
      have hr1 : Rel E r1 (.agg (cells.setIfInBounds i (a.eval x))) := by
        refine .agg _ r1.list _ (parts_list (put_parts hq)) (by rw [p1]; simp [q2]) (fun y hy => ?_) (fun j y z hy hz => ?_)
        · rw [p1] at hy
          rcases List.mem_or_eq_of_mem_set hy with hy | rfl
          · exact q3 y hy
          · exact p2
        · rw [p1, List.getElem?_set] at hy
          rw [Array.getElem?_setIfInBounds] at hz
          by_cases e : i = j
          · subst e
            rw [if_pos rfl] at hy hz
            split at hy
            · split at hz
              · injection hy with hy; injection hz with hz; subst hy; subst hz; exact hrel
              · cases hz
            · cases hy
          · rw [if_neg e] at hy hz
            exact q4 j y z hy hz
      obtain ⟨cells', g1, g2⟩ := fill_row l us r1 r' _ h3 (fun p hp => hop p (List.mem_cons_of_mem _ hp)) (put_parts hq) hp hr1 (by simpa using hn)
      refine ⟨cells', ?_, g2⟩
      simp only [List.map_cons, Instr.fill, hcells]
      rw [if_neg (by simp; omega)]
      simpa using g1
/-- An array's literal. -/
theorem op_buildArr {us : List (Nat × AV)} {parts : Array (Nat × Operand)} {zc : Array Value} {r0 r : AV} (hu : P.underlying t = some (.array n e)) (hsz : (P.info? e).map (·.size) = some 1) (hz : (P.info? t).map (·.zero) = some (some (.agg zc))) (hr0 : Rel Emb.nil r0 (.agg zc)) (hs0 : r0.parts.isSome = true) (hn : n ≤ zc.size)
    (hp : PartsEv T n parts.toList us) (hr : putAll r0 us = some r) : OpSem P T H ⟨d, .build t parts, ty, ps, af, gd⟩ nm wr r [] :=
  .quiet fun E a w h => by
    obtain ⟨cells', g1, g2⟩ := fill_row (E := E) (a := a) parts.toList us r0 r zc hp (fun p hp => h p.2 (by simp only [Op.operands]; simp; exact ⟨p.1, by simpa using hp⟩)) hs0 hr (hr0.mono (Emb.nil_le _)) hn
    have hzr : (zeroValue t).run P w = .ok (.agg zc) w := by
      cases hq : P.info? t with
      | none => simp [hq] at hz
      | some i => simp [hq] at hz; simp [zeroValue, typeInfo, hq, hz]
    have hf : Instr.fill (fun i => some (i * 1, 1)) zc (parts.map fun (i, x) => (i, a.eval x)).toList = some cells' := by
      rw [Array.toList_map]; exact g1
    refine ⟨_, ?_, g2⟩
    simp only [execOp, Sem.run_bind, Instr.build, hzr, Result.andThen_ok, run_underlying hu, run_sizeOf_is hsz, Value.cells, hf]
    rfl
/-- A row in which some cells are another row's. -/
def AV.over : AV → Nat → AV → Nat → Option AV
  | .aggB l, o, .aggB s, q => some (.aggB (l.take o ++ s.take q ++ l.drop (o + q)))
  | .agg64 l, o, .agg64 s, q => some (.agg64 (l.take o ++ s.take q ++ l.drop (o + q)))
  | .agg32 l, o, .agg32 s, q => some (.agg32 (l.take o ++ s.take q ++ l.drop (o + q)))
  | .aggI l, o, .aggI s, q => some (.aggI (l.take o ++ s.take q ++ l.drop (o + q)))
  | .agg l, o, .agg s, q => some (.agg (l.take o ++ s.take q ++ l.drop (o + q)))
  | _, _, _, _ => none
theorem over_list {a s a' : AV} {o q : Nat} (h : a.over o s q = some a') : a'.list = a.list.take o ++ s.list.take q ++ a.list.drop (o + q) := by
  unfold AV.over at h
  split at h <;> first
    | (injection h with h; subst h; simp [AV.list, AV.parts, List.map_take, List.map_drop])
    | cases h
/-- copy. -/
theorem op_copy {cs : List AV} {q : Nat} (ht : P.underlying t = some (.slice e)) (hsz : (P.info? e).map (·.size) = some 1) (hx : aev T x = some (.sl b o n 1)) (hk : H b = some k) (hown : k.own = true) (hs : Srcs P T H y 1 m cs) (ho : o + n ≤ k.c.len) (hq : q = min m n)
    (hc : c'.list = k.c.list.take o ++ cs.take q ++ k.c.list.drop (o + q)) (hmc : c'.isMap = false := by first | rfl | assumption | exact AV.map_parts (by assumption)) (hmp : k.c.isMap = false := by first | rfl | assumption | exact AV.map_parts (by assumption)) : OpSem P T H ⟨d, .call { callee := .builtin .copy, args := #[x, y], argTypes := #[t, t2] }, ty, ps, af, gd⟩ nm wr (.i64 (q : Int)) [(b, some { k with c := c' })] := by
  intro E S n0 H2 a w hS hn0 _ _ hwr hle hop hR hf K Q hK
  have hRl := hR.less hle
  replace hk := hle b k hk
  have hrx := hop x (by simp [Op.operands, Call.operands]) _ hx
  obtain ⟨hcl, hsr⟩ := hs
  obtain ⟨news, s1, s2, s3⟩ := hsr E S a w (fun u hu => hop y (by simp [Op.operands, Call.operands]) u hu) hRl
  obtain ⟨l', s', h3, arr, tq, fz, g1, g2, g3, g4, g5⟩ := hR.blkR hk hmp
  have hll := len_list k.c
  have h4 := s3 w rfl
  have hmin : Nat.min m n = q := hq.symm
  have hff := h4.2 q (by omega)
  rw [Nat.mul_one] at hff
  have hone : ∀ r ∈ news.take q, r.oneCell' = true := fun r hr => by
    have hr := List.mem_of_mem_take hr
    obtain ⟨i, hi, rfl⟩ := List.mem_iff_getElem.1 hr
    have hi' : i < cs.length := by omega
    obtain ⟨p1, yv, p2, p3⟩ := s2 i cs[i] (List.getElem?_eq_getElem hi')
    rw [List.getElem?_eq_getElem hi] at p2; injection p2 with p2
    rw [p2]; exact p3.one p1
  have hlenq : (news.take q).length = q := by simp; omega
  have key : ∃ y' w', (Builtin.copy_ #[t, t2] ty #[a.eval x, a.eval y]).run P w = .ok y' w' ∧ Rel E (.i64 (q : Int)) y' ∧ RH E S (upd [(b, some { k with c := c' })] H2) w' ∧ Fr S w w' := by
    rcases hrx.sl_inv with ⟨lc, s, cp, q1, q2, q3, q4, q5⟩ | ⟨ad, hz0, q5⟩
    · rw [q1] at h3; injection h3 with h3; injection h3 with e1 e2; subst e1; subst e2
      obtain ⟨arr', hr, hsz', hv⟩ := run_storeCells_gen P lc o tq fz (news.take q) 0 arr w g1 (by rw [g2]; exact g3.1.w hown) (by omega) hone
      have hst : (storeCells ⟨lc, o, none⟩ (news.take q)).run P w = .ok () (w.setRow lc arr') := hr
      refine ⟨.int .i64 (q : Int), w.setRow lc arr', ?_, .i64 _, ?_, Fr.setRow w lc arr' (hR.own b k lc s hk hown q1)⟩
      · rw [q5]
        simp [Builtin.copy_, run_underlying ht, h4.1, hmin, run_sizeOf_is hsz, hff, hst, goInt]
      · refine hR.write hk hown q1 arr arr' tq fz g1 hsz' c' (by rw [hc]; simp; omega) fun i r hr => ?_
        rw [hc] at hr
        rw [hv]
        have hA : (k.c.list.take o).length = o := by simp; omega
        have hB : (cs.take q).length = q := by simp; omega
        by_cases c1 : i < o
        · rw [List.append_assoc, List.getElem?_append_left (by omega), List.getElem?_take, if_pos c1] at hr
          rw [if_neg (by omega)]
          exact g5 i r hr
        · by_cases c2 : i < o + q
          · rw [List.append_assoc, List.getElem?_append_right (by omega), List.getElem?_append_left (by omega), List.getElem?_take, if_pos (by omega)] at hr
            rw [if_pos (by omega), List.getElem?_take, if_pos (by omega)]
            have := s2 _ r hr
            rw [show i - (k.c.list.take o).length = i - (o + 0) by omega] at this
            exact ⟨AV.cell_of this.1, this.2⟩
          · rw [List.append_assoc, List.getElem?_append_right (by omega), List.getElem?_append_right (by omega), List.getElem?_drop] at hr
            rw [if_neg (by omega)]
            have := g5 _ r hr
            rwa [show o + q + (i - (k.c.list.take o).length - (cs.take q).length) = i by omega] at this
    · subst hz0
      have hq0 : q = 0 := by omega
      subst hq0
      refine ⟨.int .i64 0, w, ?_, .i64 _, ?_, Fr.refl _ _⟩
      · rw [q5]
        simp only [List.take_zero] at hff
        cases ad <;> simp [Builtin.copy_, run_underlying ht, h4.1, run_sizeOf_is hsz, hff, storeCells, goInt]
      · have hcc : c'.list = k.c.list := by rw [hc]; simp
        have hself : w.setRow l' arr = w := by
          obtain ⟨arr2, r1, r2, r3⟩ := run_storeCells_gen P l' 0 tq fz [] 0 arr w g1 (by rw [g2]; exact g3.1.w hown) (by simp) (by simp)
          have : arr2 = arr := Array.ext_getElem? fun j => by rw [r3 j, if_neg (by simp)]
          subst this
          simp [storeCells] at r1
          exact r1.symm
        have := hR.write hk hown h3 arr arr tq fz g1 rfl c' (by rw [hcc]; omega) (fun i q hq => by rw [hcc] at hq; exact g5 i q hq)
        rwa [hself] at this
  obtain ⟨y', w', r1, r2, r3, r4⟩ := key
  unfold Oper.wp
  have hrun : (execOp a.eval ⟨d, .call { callee := .builtin .copy, args := #[x, y], argTypes := #[t, t2] }, ty, ps, af, gd⟩).run P w = .ok (.value y') w' := by
    simp [execOp, resolve, invoke, builtin, r1]
  rw [hrun]
  exact hK y' w' E (fun _ _ => rfl) (Emb.dx_refl _ _) r2 r3 r4
end
/-! Zero values. -/
theorem rel_row {E : Emb} {a : AV} {ds : Array Value} (hs : a.parts.isSome = true) (hl : a.list.length = ds.size) (h : ∀ (i : Nat) x, a.list[i]? = some x → x.one = true ∧ ∃ y, ds[i]? = some y ∧ Rel E x y) : Rel E a (.agg ds) :=
  .agg a a.list ds (parts_list hs) hl (fun x hx => by
    obtain ⟨i, hi, rfl⟩ := List.mem_iff_getElem.1 hx
    exact (h i _ (List.getElem?_eq_getElem hi)).1) (fun i x y hx hy => by
    obtain ⟨_, y', h1, h2⟩ := h i x hx
    rw [hy] at h1; injection h1 with h1; subst h1; exact h2)
theorem rz_B (E : Emb) (n : Nat) : Rel E (.aggB (List.replicate n 0)) (.agg (Array.replicate n (.int .u8 0))) := by
  refine rel_row rfl (by simp [AV.list, AV.parts]) fun i x hx => ?_
  simp only [AV.list, AV.parts, Option.getD_some, List.map_replicate, List.getElem?_replicate] at hx
  split at hx
  · rename_i h; injection hx with hx; subst hx; exact ⟨rfl, .int .u8 0, by simp [h], .u8 0⟩
  · cases hx
theorem rz_64 (E : Emb) (n : Nat) : Rel E (.agg64 (List.replicate n 0)) (.agg (Array.replicate n (.int .u64 0))) := by
  refine rel_row rfl (by simp [AV.list, AV.parts]) fun i x hx => ?_
  simp only [AV.list, AV.parts, Option.getD_some, List.map_replicate, List.getElem?_replicate] at hx
  split at hx
  · rename_i h; injection hx with hx; subst hx; exact ⟨rfl, .int .u64 0, by simp [h], .u64 0⟩
  · cases hx
theorem rz_32 (E : Emb) (n : Nat) : Rel E (.agg32 (List.replicate n 0)) (.agg (Array.replicate n (.int .u32 0))) := by
  refine rel_row rfl (by simp [AV.list, AV.parts]) fun i x hx => ?_
  simp only [AV.list, AV.parts, Option.getD_some, List.map_replicate, List.getElem?_replicate] at hx
  split at hx
  · rename_i h; injection hx with hx; subst hx; exact ⟨rfl, .int .u32 0, by simp [h], .u32 0⟩
  · cases hx
theorem rz_I (E : Emb) (n : Nat) : Rel E (.aggI (List.replicate n 0)) (.agg (Array.replicate n (.int .i64 0))) := by
  refine rel_row rfl (by simp [AV.list, AV.parts]) fun i x hx => ?_
  simp only [AV.list, AV.parts, Option.getD_some, List.map_replicate, List.getElem?_replicate] at hx
  split at hx
  · rename_i h; injection hx with hx; subst hx; exact ⟨rfl, .int .i64 0, by simp [h], .i64 0⟩
  · cases hx
/-! Worlds. -/
theorem rel_bytes (E : Emb) (l : List UInt8) : Rel E (.aggB l) (.agg (l.map fun x => Value.int .u8 (x.toNat : Int)).toArray) := by
  refine rel_row rfl (by simp [AV.list, AV.parts]) fun i x hx => ?_
  obtain ⟨y, hy, rfl⟩ := get_map_some hx
  exact ⟨rfl, .int .u8 (y.toNat : Int), by simp [hy], .u8 y⟩
theorem relB_inv {E : Emb} {l : List UInt8} {v : Value} (h : Rel E (.aggB l) v) : v = .agg (l.map fun x => Value.int .u8 (x.toNat : Int)).toArray := by
  obtain ⟨ds, rfl, h1, _, h3⟩ := h.agg_inv (cs := l.map .u8) rfl
  congr 1
  apply Array.ext_getElem?
  intro i
  by_cases hi : i < l.length
  · have hi2 : i < ds.size := by rw [← h1]; simpa using hi
    have := (h3 i (.u8 l[i]) ds[i] (by simp [hi]) (Array.getElem?_eq_getElem hi2)).u8_inv
    rw [Array.getElem?_eq_getElem hi2, this]; simp [hi]
  · rw [Array.getElem?_eq_none (by rw [← h1]; simpa using hi), Array.getElem?_eq_none (by simpa using hi)]
theorem args0 {vals : Array Value} (hl : ([] : List AV).length = vals.size) : vals = #[] := by
  have : vals.size = 0 := hl.symm
  exact Array.eq_empty_of_size_eq_zero this
theorem args1 {E : Emb} {a : AV} {vals : Array Value} (hl : [a].length = vals.size) (hr : ∀ (i : Nat) x y, [a][i]? = some x → vals[i]? = some y → Rel E x y) : ∃ x, vals = #[x] ∧ Rel E a x := by
  match vals, hl, hr with
  | ⟨[x]⟩, _, hr => exact ⟨x, rfl, hr 0 a x rfl rfl⟩
theorem args2 {E : Emb} {a b : AV} {vals : Array Value} (hl : [a, b].length = vals.size) (hr : ∀ (i : Nat) x y, [a, b][i]? = some x → vals[i]? = some y → Rel E x y) : ∃ x y, vals = #[x, y] ∧ Rel E a x ∧ Rel E b y := by
  match vals, hl, hr with
  | ⟨[x, y]⟩, _, hr => exact ⟨x, y, rfl, hr 0 a x rfl rfl, hr 1 b y rfl rfl⟩
theorem args3 {E : Emb} {a b c : AV} {vals : Array Value} (hl : [a, b, c].length = vals.size) (hr : ∀ (i : Nat) x y, [a, b, c][i]? = some x → vals[i]? = some y → Rel E x y) : ∃ x y z, vals = #[x, y, z] ∧ Rel E a x ∧ Rel E b y ∧ Rel E c z := by
  match vals, hl, hr with
  | ⟨[x, y, z]⟩, _, hr => exact ⟨x, y, z, rfl, hr 0 a x rfl rfl, hr 1 b y rfl rfl, hr 2 c z rfl rfl⟩
theorem args4 {E : Emb} {a b c d : AV} {vals : Array Value} (hl : [a, b, c, d].length = vals.size) (hr : ∀ (i : Nat) x y, [a, b, c, d][i]? = some x → vals[i]? = some y → Rel E x y) : ∃ x y z u, vals = #[x, y, z, u] ∧ Rel E a x ∧ Rel E b y ∧ Rel E c z ∧ Rel E d u := by
  match vals, hl, hr with
  | ⟨[x, y, z, u]⟩, _, hr => exact ⟨x, y, z, u, rfl, hr 0 a x rfl rfl, hr 1 b y rfl rfl, hr 2 c z rfl rfl, hr 3 d u rfl rfl⟩
/-- A contract over worlds, of a call that gives flat values back and turns nothing. -/
theorem meets_of_walk {P : Program} {f : FuncId} {args : List AV} {H0 : List (Nat × Option ABlk)} {v : AV}
    (h : ∀ (E : Emb) (S : Nat → Prop) (vals : Array Value) (w : World), (∀ g, g < 400 → ∃ s, E g = some (g, s)) → args.length = vals.size → (∀ (i : Nat) x y, args[i]? = some x → vals[i]? = some y → Rel E x y) → RH E S (hget H0) w →
      Calls P f vals w fun e w' => ∃ y, e = .returned y ∧ Rel Emb.nil v y ∧ BelowD w w') : Meets P f args H0 v [] := by
  intro E S n0 vals w hg _ hl hr hR hS h0
  refine (h E S vals w hg hl hr hR).mono fun e w' hh => ?_
  obtain ⟨y, h1, h2, h3'⟩ := hh
  have h3 := h3'.below
  exact ⟨y, E, h1, Emb.kp_refl _ _, h2.mono (Emb.nil_le _), ⟨fun b k hb => (by cases hb), fun b _ k _ _ _ _ hb => (by cases hb), fun b k _ _ hb => (by cases hb), fun a L s ha => ⟨(hR.deep a L s ha).1.mono (h3.block a (hR.deep a L s ha).1.lt), fun b k s' hb => (by cases hb)⟩⟩, ⟨h3.os, h3.tape, h3.output, h3.size, fun k hk _ => h3.block k hk, h3'.dr⟩⟩
/-- A known table reads cell by cell. -/
theorem tab_cell {E : Emb} {S : Nat → Prop} {F : Hp} {w : World} (hR : RH E S F w) (hg : ∀ g, g < 400 → ∃ s, E g = some (g, s)) {g : Nat} (hlt : g < 400) {k : ABlk} (hk : F g = some k) {i : Nat} {x : AV} (hx : k.c.list[i]? = some x) : ∃ y, w.cell? ⟨g, i, none⟩ = some y ∧ Rel E x y := by
  obtain ⟨l, s, h1, h2⟩ := hR.blkR hk (AV.map_list hx)
  obtain ⟨s', h3⟩ := hg g hlt
  rw [h3] at h1; injection h1 with h1; injection h1 with e1 _; subst e1
  exact (h2.cell hx).2
def sizeAt (w : World) (b : Nat) : Nat := match w.heap[b]? with
  | some (.cells arr _ _) => arr.size
  | _ => 0
def topE (w : World) : Emb := ⟨fun b => if b < 500 then some (b, sizeAt w b) else none, fun _ => none⟩
/-- All that lies in a world at the start lies still: the strings of each place. -/
def stillE (w : World) (f : Nat → Option (Nat × Nat)) : Emb := ⟨f, fun a => match w.heap[a]? with
  | some (.cells arr _ _) => some (fun i => arr[i]?, arr.size)
  | _ => none⟩
theorem stillE_at (w : World) (f : Nat → Option (Nat × Nat)) : ∀ a L s, (stillE w f).d a = some (L, s) → DAt w a L s := fun a L s h => by
  simp only [stillE] at h
  split at h
  · rename_i arr t fz hb
    injection h with h; injection h with h1 h2
    refine ⟨arr, t, fz, hb, h2, fun i v hv => ?_⟩
    rw [← h1] at hv
    exact hv
  · cases h
def mapless : List (Nat × Option ABlk) → Bool
  | [] => true
  | (_, some k) :: r => !k.c.isMap && mapless r
  | (_, none) :: r => mapless r
theorem mapless_of {l : List (Nat × Option ABlk)} (h : mapless l = true) {b : Nat} {k : ABlk} (hk : hget l b = some k) : k.c.isMap = false := by
  have hm := hget_mem hk
  clear hk
  induction l with
  | nil => cases hm
  | cons p l ih =>
    obtain ⟨a, q⟩ := p
    cases q with
    | none =>
      rcases List.mem_cons.1 hm with e | hm
      · injection e with _ e2; cases e2
      · exact ih h hm
    | some k' =>
      simp only [mapless, Bool.and_eq_true, Bool.not_eq_true'] at h
      rcases List.mem_cons.1 hm with e | hm
      · injection e with _ e2; injection e2 with e2; subst e2; exact h.1
      · exact ih h.2 hm
/-- What a law yields, over worlds, whatever the names stand for. -/
theorem walk_of_meets_at {P : Program} {f : FuncId} {args : List AV} {H0 H1 : List (Nat × Option ABlk)} {vals : Array Value} {w : World} (E : Emb) (hg : ∀ g, g < 400 → ∃ s, E g = some (g, s)) (hn : ∀ b, 1000 ≤ b → E b = none) (hm : Meets P f args H0 (.bool true) H1) (hl : args.length = vals.size) (hr : ∀ (i : Nat) x y, args[i]? = some x → vals[i]? = some y → Rel E x y)
    (hH : ∀ b k, hget H0 b = some k → k.own = false ∧ ∃ l s, E b = some (l, s) ∧ BAt E k w l s)
    (hd : ∀ a L s, E.d a = some (L, s) → DAt w a L s := by intro a L s h; exact absurd (show (none : Option ((Nat → Option Value) × Nat)) = some (L, s) from h) (by simp)) (hnm : mapless H0 = true := by rfl) : Calls P f vals w fun e w' => e = .returned (.bool true) ∧ Below w.heap.size w w' := by
  refine (hm E (fun k => w.heap.size ≤ k) w.heap.size vals w hg hn hl hr ⟨fun b k hk => (hH b k hk).2.imp fun _ h => h.imp fun _ h => ⟨h.1, .row (mapless_of hnm hk) h.2⟩, fun b b' k k' l s s' h1 _ h3 => ?_, fun b k l s h1 h2 => ?_, fun a L s ha => ⟨hd a L s ha, fun b k s' h1 h2 => ?_⟩⟩ (fun _ h => h) (Nat.le_refl _)).mono fun e w' hh => ?_
  · rw [(hH b k h1).1] at h3; cases h3
  · rw [(hH b k h1).1] at h2; cases h2
  · rw [(hH b k h1).1] at h2; cases h2
  · obtain ⟨y, E', h1, _, h2, _, hF⟩ := hh
    refine ⟨by rw [h1, h2.bool_inv], hF.os, hF.tape, hF.output, hF.size, fun k hk => hF.block k hk (by omega)⟩
/-- What a law yields, over worlds. -/
theorem walk_of_meets {P : Program} {f : FuncId} {args : List AV} {H0 H1 : List (Nat × Option ABlk)} {vals : Array Value} {w : World} (hm : Meets P f args H0 (.bool true) H1) (hl : args.length = vals.size) (hr : ∀ (i : Nat) x y, args[i]? = some x → vals[i]? = some y → Rel (topE w) x y)
    (hH : ∀ b k, hget H0 b = some k → b < 500 ∧ k.own = false ∧ BAt (topE w) k w b (sizeAt w b)) (hnm : mapless H0 = true := by rfl) : Calls P f vals w fun e w' => e = .returned (.bool true) ∧ Below w.heap.size w w' :=
  walk_of_meets_at (topE w) (fun g hg => ⟨sizeAt w g, by simp [topE]; omega⟩) (fun b hb => by simp [topE]; omega) hm hl hr (fun b k hk => ⟨(hH b k hk).2.1, b, sizeAt w b, by simp [topE, (hH b k hk).1], (hH b k hk).2.2⟩) (hnm := hnm)
/-- A table of numbers, as a world lays it. -/
theorem bat_ints {w : World} {g : Nat} {l : List Int} {E : Emb} (hz : ∀ arr e fz, w.heap[g]? = some (.cells arr e fz) → fz = (0, 0)) (hlt : ∀ arr e fz, w.heap[g]? = some (.cells arr e fz) → e < frz) (h0 : 0 < l.length) (h : ∀ i, i < l.length → w.cell? ⟨g, i, none⟩ = some (.int .i64 (l.getD i 0))) : ∃ e, BAt E ⟨.aggI l, e, false⟩ w g (sizeAt w g) := by
  have hc := h 0 h0
  unfold World.cell? at hc
  split at hc
  · rename_i arr e fz hb
    refine ⟨e, arr, e, fz, hb, by simp [sizeAt, hb], ⟨⟨fun h => (by cases h), fun _ => hz arr e fz hb, fun _ h => absurd h (Nat.not_le.2 (hlt arr e fz hb))⟩, .inr (.inl ⟨rfl, .inr (hlt arr e fz hb)⟩)⟩, ?_, fun i x hx => ?_⟩
    · have := h (l.length - 1) (by omega)
      rw [cell_of_row w g _ arr e fz hb] at this
      have := (Array.getElem?_eq_some_iff.1 this).1
      simp [AV.list, AV.parts, sizeAt, hb]; omega
    · obtain ⟨y, hy, rfl⟩ := get_map_some (l := l) hx
      have hi := (List.getElem?_eq_some_iff.1 hy).1
      have := h i hi
      rw [cell_of_row w g _ arr e fz hb] at this
      refine ⟨rfl, .int .i64 y, ?_, .i64 y⟩
      rw [this]
      simp [List.getD_eq_getElem?_getD, hy]
  · cases hc
end Go.Proofs.YtdpdmgbdipokdaaDoor
namespace Go.Proofs.YtdpdmgbdipokdaaDoor
open Go.RowKit
section
variable {P : Program} {nt : Nat} {st : St}
/-- A type of several cells. -/
def isRowD : TypeDesc → Bool
  | .struct _ => true
  | .array _ _ => true
  | _ => false
/-- One result: a slot's value, or a variable's. -/
def ResOk (P : Program) (st : St) : ResultVar → AV → Prop
  | .tmp t, v => lk st.T t = some v
  | .cell a t, v => ∃ b k dd m, lk st.T a = some (.ptr b 0) ∧ hget st.H b = some k ∧ k.c = v ∧ (v.parts.isSome && v.rowWhole) = true ∧ v.len = m ∧ P.underlying t = some dd ∧ isRowD dd = true ∧ (P.info? t).map (·.size) = some m
theorem ResOk.run {r : ResultVar} {v : AV} (h : ResOk P st r v) {E : Emb} {S : Nat → Prop} {n0 : Nat} {a : Act} {w : World} (hR : RS E S n0 nt st a w) : ∃ y, (match r with | .tmp t => pure (a.tmps.getD t undef) | .cell q t => do loadVar t (← asAddr (a.tmps.getD q undef)) : Sem Value).run P w = .ok y w ∧ Rel E v y := by
  cases r with
  | tmp t => exact ⟨_, rfl, hR.rt t v h⟩
  | cell q t =>
    obtain ⟨b, k, dd, m, h1, h2, h3, h40, h5, h6, h7, h8⟩ := h
    obtain ⟨h4, hw0⟩ := Bool.and_eq_true_iff.1 h40
    obtain ⟨l, s, e1, e2⟩ := (hR.rt q _ h1).ptr_inv
    obtain ⟨l', s', e3, arr, tq, fz, g1, g2, g3, g4, g5⟩ := hR.rh.blkR h2 (by rw [h3]; cases hvp : v.parts with | none => rw [hvp] at h4; cases h4 | some cs => exact AV.map_parts hvp)
    rw [e1] at e3; injection e3 with e3; injection e3 with q1 q2; subst q1; subst q2
    have hlen : k.c.list.length = m := by rw [len_list, h3, h5]
    have hr := run_loadCells_list (P := P) w ⟨l, 0, none⟩ (arr.toList.take m) (fun j v hj => by
      rw [add_at, Nat.zero_add, cell_of_row w l j arr tq fz g1]
      rw [List.getElem?_take] at hj
      split at hj
      · simpa using hj
      · cases hj)
    have hlen2 : (arr.toList.take m).length = m := by simp; omega
    rw [hlen2] at hr
    have hag : (isAgg t).run P w = .ok true w := by
      unfold isAgg
      simp only [Sem.run_bind, run_underlying h6, Result.andThen_ok]
      cases dd <;> first | rfl | cases h7
    refine ⟨.agg (arr.toList.take m).toArray, ?_, ?_⟩
    · simp [e2, asAddr, loadVar, hag, run_sizeOf_is h8, hr]
    · subst h3
      refine .agg _ k.c.list _ (parts_list h4) (by simp; omega) (fun x hx => ?_) (fun i x y hx hy => ?_)
      · obtain ⟨i, hi, rfl⟩ := List.mem_iff_getElem.1 hx
        exact cell_one hw0 (List.getElem?_eq_getElem hi) (g5 i _ (List.getElem?_eq_getElem hi)).1
      · obtain ⟨_, y', h6, h7⟩ := g5 i x hx
        have hi : i < m := by rw [← hlen]; exact (List.getElem?_eq_some_iff.1 hx).1
        simp only [List.getElem?_toArray, List.getElem?_take, hi, if_true] at hy
        rw [Array.getElem?_toList, h6] at hy
        injection hy with hy; subst hy; exact h7
theorem retc1 {fn : Func} {r : ResultVar} {v : AV} {H1 : List (Nat × Option ABlk)} {e : Exit} (hr : fn.results = #[r]) (he : e = .ret ∨ e = .normal) (h : ResOk P st r v) (hH : HSub (hget st.H) H1) : RetOk P fn nt v H1 e st :=
  ⟨he, hH.spec, fun E S n0 a w hR => by
    obtain ⟨y, h1, h2⟩ := h.run hR
    refine ⟨y, ?_, h2⟩
    cases r <;> simp_all [results]⟩
theorem run_mapM2 {w : World} (f : ResultVar → Sem Value) (r1 r2 : ResultVar) (y1 y2 : Value) (h1 : (f r1).run P w = .ok y1 w) (h2 : (f r2).run P w = .ok y2 w) : ((#[r1, r2] : Array ResultVar).mapM f).run P w = .ok #[y1, y2] w := by
  simp [h1, h2]
theorem retc2 {fn : Func} {r1 r2 : ResultVar} {v1 v2 : AV} {H1 : List (Nat × Option ABlk)} {e : Exit} (hr : fn.results = #[r1, r2]) (he : e = .ret ∨ e = .normal) (h1 : ResOk P st r1 v1) (h2 : ResOk P st r2 v2) (hH : HSub (hget st.H) H1) : RetOk P fn nt (.tup [v1, v2]) H1 e st :=
  ⟨he, hH.spec, fun E S n0 a w hR => by
    obtain ⟨y1, g1, g2⟩ := h1.run hR
    obtain ⟨y2, g3, g4⟩ := h2.run hR
    refine ⟨.tuple #[y1, y2], ?_, .tup _ _ rfl fun i x y hx hy => ?_⟩
    · have h3 := run_mapM2 (P := P) (w := w) (fun r => match r with | .tmp t => pure (a.tmps.getD t undef) | .cell q t => do loadVar t (← asAddr (a.tmps.getD q undef)) : ResultVar → Sem Value) r1 r2 y1 y2 g1 g3
      unfold results
      rw [hr, Sem.run_bind]
      refine (congrArg (fun r => Result.andThen r _) h3).trans ?_
      rfl
    · match i, hx, hy with
      | 0, hx, hy => simp at hx hy; subst hx; subst hy; exact g2
      | 1, hx, hy => simp at hx hy; subst hx; subst hy; exact g4
      | i + 2, hx, _ => simp at hx⟩
/-- Nothing is returned. -/
theorem ret0 {fn : Func} {H1 : List (Nat × Option ABlk)} {e : Exit} (hr : fn.results = #[]) (he : e = .ret ∨ e = .normal) (hH : HSub (hget st.H) H1) : RetOk P fn nt (.tup []) H1 e st :=
  ⟨he, hH.spec, fun E S n0 a w hR => ⟨_, results_none hr a.tmps P w, .tup _ _ rfl fun i x y hx _ => by simp at hx⟩⟩
end
end Go.Proofs.YtdpdmgbdipokdaaDoor
namespace Go.Proofs.YtdpdmgbdipokdaaDoor
open Go.RowKit
section
variable {P : Program} {T : Nat → Option AV} {H : Hp} {nm : Nat} {wr : Bool} {v u u1 u2 : AV} {d : Option Tmp} {ty : TypeId} {ps : String} {af : Array Edge} {gd : Option (Nat × Bool)}
theorem run_callFunc_ext {f : FuncId} {fn : Func} {g : Array Value → Sem Value} (hf : P.funcs[f]? = some fn) (hname : (fn.name == "runtime.NumGoroutine") = false) (hb : fn.body.isNone = true) (hn : (Extern.findNext fn).isNone = true) (he : Extern.find fn = some g) {args : Array Value} {w w' : World} {y : Value} (hg : (g args).run P w = .ok y w') :
    (callFunc f args).run P w = .ok (.value y) w' := by
  have h1 : fn.name ≠ "runtime.NumGoroutine" := by simpa using hname
  have h2 : Extern.findNext fn = none := by
    cases hq : Extern.findNext fn with
    | none => rfl
    | some x => rw [hq] at hn; cases hn
  have h3 : fn.body = none := by simpa using hb
  simp [callFunc, hf, h1, h3, h2, he, hg]
theorem run_exec_func {f : FuncId} {xs : Array Operand} {ts : Array TypeId} {a : Act} {w : World} {r : Result Next} (h : (callFunc f (xs.map a.eval)).run P w = r) : (execOp a.eval ⟨d, .call { callee := .value (.func f), args := xs, argTypes := ts }, ty, ps, af, gd⟩).run P w = r := by
  simp [execOp, resolve, invoke, Act.eval, Deferred.ofValue, h]
/-- math/bits.Add64. -/
theorem op_add64 {f : FuncId} {fn : Func} {x y z : Operand} {ts : Array TypeId} {a b c : UInt64} (hf : P.funcs[f]? = some fn) (hname : (fn.name == "runtime.NumGoroutine") = false) (hb : fn.body.isNone = true) (hn : (Extern.findNext fn).isNone = true)
    (he : (Extern.find fn) = some (fun args => do
      let (x, y, c) ← Extern.MathBitsCarry.three "Add64" args
      pure (Extern.MathBitsCarry.pair ((x + y + c) % Extern.MathBitsCarry.m64) ((x + y + c) / Extern.MathBitsCarry.m64))))
    (hx : aev T x = some (.u64 a)) (hy : aev T y = some (.u64 b)) (hz : aev T z = some (.u64 c)) (hc : c.toNat ≤ 1) :
    OpSem P T H ⟨d, .call { callee := .value (.func f), args := #[x, y, z], argTypes := ts }, ty, ps, af, gd⟩ nm wr (.tup [.u64 (a + b + c), .u64 (UInt64.ofNat ((a.toNat + b.toNat + c.toNat) / 18446744073709551616))]) [] :=
  .quiet fun E ac w h => by
    have h1 := (h x (by simp [Op.operands, Call.operands]) _ hx).u64_inv
    have h2 := (h y (by simp [Op.operands, Call.operands]) _ hy).u64_inv
    have h3 := (h z (by simp [Op.operands, Call.operands]) _ hz).u64_inv
    have ha := a.toNat_lt
    have hb' := b.toNat_lt
    have hcar : (UInt64.ofNat ((a.toNat + b.toNat + c.toNat) / 18446744073709551616)).toNat = (a.toNat + b.toNat + c.toNat) / 18446744073709551616 := by
      rw [UInt64.toNat_ofNat_of_lt' (by show _ < 18446744073709551616; omega)]
    have hsum : (a + b + c).toNat = (a.toNat + b.toNat + c.toNat) % 18446744073709551616 := by
      rw [UInt64.toNat_add, UInt64.toNat_add]; omega
    have hrun : (callFunc f #[.int .u64 (a.toNat : Int), .int .u64 (b.toNat : Int), .int .u64 (c.toNat : Int)]).run P w = .ok (.value (.tuple #[.int .u64 ((a + b + c).toNat : Int), .int .u64 ((UInt64.ofNat ((a.toNat + b.toNat + c.toNat) / 18446744073709551616)).toNat : Int)])) w := by
      refine run_callFunc_ext hf hname hb hn he ?_
      rw [hcar, hsum]
      have hc' : ¬ (1 < c.toNat) := by omega
      have e3 : ∀ X Y Z : Value, Extern.MathBitsCarry.three "Add64" #[X, Y, Z] = (do
          let c := (← asInt Z).toNat
          if c > 1 then unsupported (.noEntry ("extern/math/bits." ++ "Add64" ++ ": a carry that is neither 0 nor 1"))
          pure ((← asInt X).toNat, (← asInt Y).toNat, c)) := fun _ _ _ => rfl
      have hm : Extern.MathBitsCarry.m64 = 18446744073709551616 := rfl
      simp only [e3, asInt, asIntOf, Sem.run_bind, Sem.run_pure, Result.andThen_ok, Int.toNat_natCast, Sem.run_ite, gt_iff_lt, if_neg hc', Extern.MathBitsCarry.pair, hm]
      rfl
    obtain ⟨Y, hY⟩ : ∃ Y, Y = Value.tuple #[.int .u64 ((a + b + c).toNat : Int), .int .u64 ((UInt64.ofNat ((a.toNat + b.toNat + c.toNat) / 18446744073709551616)).toNat : Int)] := ⟨_, rfl⟩
    rw [← hY] at hrun
    have hmap : (#[x, y, z] : Array Operand).map ac.eval = #[.int .u64 (a.toNat : Int), .int .u64 (b.toNat : Int), .int .u64 (c.toNat : Int)] := by simp only [List.map_toArray, List.map_cons, List.map_nil, h1, h2, h3]
    rw [← hmap] at hrun
    clear hmap hcar hsum
    refine ⟨Y, ?_, ?_⟩
    · exact run_exec_func hrun
    · rw [hY]
      refine .tup _ _ rfl fun i p q hp hq => ?_
      match i, hp, hq with
      | 0, hp, hq => simp only [List.getElem?_cons_zero, Option.some.injEq] at hp; subst hp; injection hq with hq; subst hq; exact .u64 _
      | 1, hp, hq => simp only [List.getElem?_cons_succ, List.getElem?_cons_zero, Option.some.injEq] at hp; subst hp; injection hq with hq; subst hq; exact .u64 _
      | i + 2, hp, _ => simp at hp
end
end Go.Proofs.YtdpdmgbdipokdaaDoor
namespace Go.Proofs.YtdpdmgbdipokdaaDoor
open Go.RowKit
/-- Known blocks, of each its first cells. -/
def HPre (F : Hp) : List (Nat × Option ABlk) → Prop
  | [] => True
  | (_, none) :: r => HPre F r
  | (b, some k) :: r => (∃ c m, (F b, c.isMap || k.c.isMap) = (some ⟨c, k.elem, k.own⟩, false) ∧ k.c.list = c.list.take m) ∧ HPre F r
theorem HPre.spec {F : Hp} : ∀ {l : List (Nat × Option ABlk)}, HPre F l → ∀ b k, hget l b = some k → ∃ c m, F b = some ⟨c, k.elem, k.own⟩ ∧ k.c.list = c.list.take m ∧ c.isMap = false ∧ k.c.isMap = false := by
  intro l h b k hb
  have hm := hget_mem hb
  clear hb
  induction l with
  | nil => cases hm
  | cons p l ih =>
    obtain ⟨q, r⟩ := p
    cases r with
    | none =>
      rcases List.mem_cons.1 hm with e | hm
      · injection e with _ e2; cases e2
      · exact ih h hm
    | some k' =>
      rcases List.mem_cons.1 hm with e | hm
      · injection e with e1 e2; injection e2 with e2; subst e1; subst e2
        obtain ⟨c, m, h1, h2⟩ := h.1
        have h3 := congrArg Prod.snd h1
        simp only [Bool.or_eq_false_iff] at h3
        exact ⟨c, m, congrArg Prod.fst h1, h2, h3.1, h3.2⟩
      · exact ih h.2 hm
theorem RH.pre {E : Emb} {S : Nat → Prop} {F : Hp} {w : World} (h : RH E S F w) {l : List (Nat × Option ABlk)} (hp : HPre F l) : RH E S (hget l) w := by
  refine ⟨fun b k hk => ?_, fun b b' k k' q s s' h1 h2 h3 h4 h5 => ?_, fun b k q s h1 h2 h3 => ?_, fun a L s ha => ⟨(h.deep a L s ha).1, fun b k s' h1 h2 => ?_⟩⟩
  rotate_right 1
  · obtain ⟨c, m, g1, _⟩ := hp.spec b k h1
    exact (h.deep a L s ha).2 b _ s' g1 h2
  · obtain ⟨c, m, h1, h2, hcm, hkm⟩ := hp.spec b k hk
    obtain ⟨q, s, h3, arr, tq, fz, g1, g2, g3, g4, g5⟩ := h.blkR h1 hcm
    refine ⟨q, s, h3, .row hkm ⟨arr, tq, fz, g1, g2, ⟨⟨g3.1.w, g3.1.z, fun h h' h'' => ⟨(g3.1.f h h' h'').1, by rw [h2, List.length_take]; have h9 : c.list.length ≤ fz.2 := (g3.1.f h h' h'').2; omega⟩⟩, g3.2⟩, ?_, fun i x hx => ?_⟩⟩
    · rw [h2, List.length_take]; have : c.list.length ≤ s := g4; omega
    · rw [h2, List.getElem?_take] at hx
      split at hx
      · exact g5 i x hx
      · cases hx
  · obtain ⟨c, m, g1, _⟩ := hp.spec b k h1
    obtain ⟨c', m', g1', _⟩ := hp.spec b' k' h2
    exact h.inj b b' _ _ q s s' g1 g1' h3 h4 h5
  · obtain ⟨c, m, g1, _⟩ := hp.spec b k h1
    exact h.own b _ q s g1 h2 h3
/-- A contract may say less of the blocks it leaves. -/
theorem Meets.less {P : Program} {f : FuncId} {args : List AV} {H0 H1 H2 : List (Nat × Option ABlk)} {v : AV} (h : Meets P f args H0 v H1) (hp : HPre (hget H1) H2) : Meets P f args H0 v H2 := by
  intro E S n0 vals w h1 h2 h3 h4 h5 h6 h7
  refine (h E S n0 vals w h1 h2 h3 h4 h5 h6 h7).mono fun e w' hh => ?_
  obtain ⟨y, E', g1, g2, g3, g4, g5⟩ := hh
  exact ⟨y, E', g1, g2, g3, g4.pre hp, g5⟩
theorem Meets.as {P : Program} {f : FuncId} {args : List AV} {H0 H1 : List (Nat × Option ABlk)} {v v' : AV} (h : Meets P f args H0 v H1) (e : v = v') : Meets P f args H0 v' H1 := e ▸ h
/-- Of the blocks only the heads are needed from here on. -/
theorem Ev.pre {P : Program} {nt : Nat} {c : Code} {T : List (Nat × AV)} {H H2 : List (Nat × Option ABlk)} {nx : Nat} {post : Exit → St → Prop} (hp : HPre (hget H) H2) (h : Ev P nt c ⟨T, H2, nx⟩ post) : Ev P nt c ⟨T, H, nx⟩ post :=
  fun E S n0 a w hn hR => h E S n0 a w hn ⟨hR.rt, hR.nt, hR.df, hR.rh.pre hp, hR.fr, hR.gl, hR.hS, hR.h0⟩
end Go.Proofs.YtdpdmgbdipokdaaDoor
