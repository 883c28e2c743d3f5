/-
  Calls over abstract values. Nothing of the program is named here.
-/
import Derived.Test.YtaenhghihhhikaaDoorAe6
namespace Go.Proofs.YtaenhghihhhikaaDoor
open Go.RowKit

/-- The called function's names for the caller's blocks (L: called name, caller's name). -/
def backC (L : List (Nat × Nat)) (b : Nat) : Nat := match Nat.blt b 500 with
  | true => b
  | false => match lk (L.map fun p => (p.2, p.1)) b with
    | some c => c
    | none => 0
def srcC (L : List (Nat × Nat)) (c : Nat) : Option Nat := match Nat.blt c 500 with
  | true => some c
  | false => lk L c
def nmOkC (L : List (Nat × Nat)) : List Nat → Bool
  | [] => true
  | b :: r => (match Nat.blt b 500 with
    | true => true
    | false => match lk L (backC L b) with
      | some b' => Nat.beq b' b && Nat.ble 500 (backC L b)
      | none => false) && nmOkC L r
def ArgsOk (T : Nat → Option AV) (L : List (Nat × Nat)) : List Operand → List AV → Prop
  | [], [] => True
  | x :: xs, a :: as => (∃ u, aev T x = some u ∧ u.ren (backC L) = a ∧ nmOkC L u.names = true) ∧ ArgsOk T L xs as
  | _, _ => False
def HLeC (F : Hp) (L : List (Nat × Nat)) : List (Nat × Option ABlk) → Prop
  | [] => True
  | (_, none) :: r => HLeC F L r
  | (c, some k2) :: r => (∃ b k, srcC L c = some b ∧ F b = some k ∧ k.c.ren (backC L) = k2.c ∧ k.elem = k2.elem ∧ (k2.own = true → k.own = true) ∧ nmOkC L k.c.names = true) ∧ HLeC F L r
def LOkC (L : List (Nat × Nat)) : Bool := L.all (fun p => Nat.ble 500 p.1 && Nat.blt p.1 1000 && Nat.ble 500 p.2) && decide (L.map Prod.snd).Nodup
/-- The caller's names for the called function's blocks (N: caller's new name, called function's new name). -/
def fwd (L N : List (Nat × Nat)) (c : Nat) : Nat := match srcC L c with
  | some b => b
  | none => match lk (N.map fun p => (p.2, p.1)) c with
    | some b => b
    | none => 0
def nmOkF (L N : List (Nat × Nat)) : List Nat → Bool
  | [] => true
  | c :: r => (match srcC L c with
    | some _ => Nat.blt c 1000
    | none => match lk N (fwd L N c) with
      | some c' => Nat.beq c' c
      | none => false) && nmOkF L N r
/-- The caller's names that are given anew: each has what the called function's block has. -/
def UOk (L N : List (Nat × Nat)) (H0 H1 : List (Nat × Option ABlk)) : List (Nat × Option ABlk) → Prop
  | [] => True
  | (_, none) :: r => UOk L N H0 H1 r
  | (b, some k') :: r => (∃ c k, hget H1 c = some k ∧ k' = ⟨k.c.ren (fwd L N), k.elem, true⟩ ∧ k.own = true ∧ nmOkF L N k.c.names = true ∧
      (lk N b = some c ∨ (lk L c = some b ∧ ∃ k0, hget H0 c = some k0 ∧ k0.own = true))) ∧ UOk L N H0 H1 r
def Cov (L : List (Nat × Nat)) (U : List (Nat × Option ABlk)) : List (Nat × Option ABlk) → Prop
  | [] => True
  | (_, none) :: r => Cov L U r
  | (c, some k) :: r => (k.own = true → ∃ b q, lk L c = some b ∧ lk U b = some q) ∧ Cov L U r
def NOk (N : List (Nat × Nat)) (nm : Nat) (U : List (Nat × Option ABlk)) : Bool := (N.all fun p => Nat.ble nm p.1 && Nat.blt p.1 (nm + 8) && Nat.ble 1000 p.2 && (lk U p.1).isSome) && decide (N.map Prod.snd).Nodup
theorem nmOkC_spec {L : List (Nat × Nat)} {E : Emb} : ∀ {ns : List Nat}, nmOkC L ns = true → ∀ b ∈ ns, ∀ p, E b = some p → (match srcC L (backC L b) with | some c => E c | none => none) = some p
  | [], _, b, hb => by cases hb
  | n :: r, h, b, hb => by
    simp only [nmOkC, Bool.and_eq_true] at h
    rcases List.mem_cons.1 hb with rfl | hb
    · intro p hp
      have h1 := h.1
      cases hlt : Nat.blt b 500 with
      | true => simp only [backC, hlt, srcC]; exact hp
      | false =>
        simp only [hlt] at h1
        cases hl : lk L (backC L b) with
        | none => rw [hl] at h1; cases h1
        | some b' =>
          rw [hl] at h1
          simp only [Bool.and_eq_true] at h1
          have e := Nat.eq_of_beq_eq_true h1.1
          subst e
          have h2 : Nat.blt (backC L b') 500 = false := by
            have := Nat.le_of_ble_eq_true h1.2
            cases hq : Nat.blt (backC L b') 500 with
            | false => rfl
            | true => have := blt_true hq; omega
          simp only [srcC, h2, hl]
          exact hp
    · exact nmOkC_spec h.2 b hb
theorem HLeC.spec {F : Hp} {L : List (Nat × Nat)} : ∀ {l : List (Nat × Option ABlk)}, HLeC F L l → ∀ c k2, (c, some k2) ∈ l →
    ∃ b k, srcC L c = some b ∧ F b = some k ∧ k.c.ren (backC L) = k2.c ∧ k.elem = k2.elem ∧ (k2.own = true → k.own = true) ∧ nmOkC L k.c.names = true
  | [], _, _, _, h => by cases h
  | (c', none) :: r, h, c, k2, hm => by
    rcases List.mem_cons.1 hm with e | hm
    · injection e with _ e2; cases e2
    · exact HLeC.spec (l := r) h c k2 hm
  | (c', some k') :: r, h, c, k2, hm => by
    rcases List.mem_cons.1 hm with e | hm
    · injection e with e1 e2; injection e2 with e2; subst e1; subst e2; exact h.1
    · exact HLeC.spec h.2 c k2 hm
theorem UOk.spec {L N : List (Nat × Nat)} {H0 H1 : List (Nat × Option ABlk)} : ∀ {l : List (Nat × Option ABlk)}, UOk L N H0 H1 l → ∀ b k', (b, some k') ∈ l →
    ∃ c k, hget H1 c = some k ∧ k' = ⟨k.c.ren (fwd L N), k.elem, true⟩ ∧ k.own = true ∧ nmOkF L N k.c.names = true ∧ (lk N b = some c ∨ (lk L c = some b ∧ ∃ k0, hget H0 c = some k0 ∧ k0.own = true))
  | [], _, _, _, h => by cases h
  | (c', none) :: r, h, c, k2, hm => by
    rcases List.mem_cons.1 hm with e | hm
    · injection e with _ e2; cases e2
    · exact UOk.spec (l := r) h c k2 hm
  | (c', some k') :: r, h, c, k2, hm => by
    rcases List.mem_cons.1 hm with e | hm
    · injection e with e1 e2; injection e2 with e2; subst e1; subst e2; exact h.1
    · exact UOk.spec h.2 c k2 hm
theorem Cov.spec {L : List (Nat × Nat)} {U : List (Nat × Option ABlk)} : ∀ {l : List (Nat × Option ABlk)}, Cov L U l → ∀ c k, (c, some k) ∈ l → k.own = true → ∃ b q, lk L c = some b ∧ lk U b = some q
  | [], _, _, _, h => by cases h
  | (c', none) :: r, h, c, k2, hm => by
    rcases List.mem_cons.1 hm with e | hm
    · injection e with _ e2; cases e2
    · exact Cov.spec (l := r) h c k2 hm
  | (c', some k') :: r, h, c, k2, hm => by
    rcases List.mem_cons.1 hm with e | hm
    · injection e with e1 e2; injection e2 with e2; subst e1; subst e2; exact h.1
    · exact Cov.spec h.2 c k2 hm
theorem ArgsOk.spec {T : Nat → Option AV} {L : List (Nat × Nat)} : ∀ {xs : List Operand} {as : List AV}, ArgsOk T L xs as → as.length = xs.length ∧
    ∀ (i : Nat) a x, as[i]? = some a → xs[i]? = some x → ∃ u, aev T x = some u ∧ u.ren (backC L) = a ∧ nmOkC L u.names = true
  | [], [], _ => ⟨rfl, fun i a x h => by simp at h⟩
  | [], _ :: _, h => h.elim
  | _ :: _, [], h => h.elim
  | x :: xs, a :: as, h => by
    obtain ⟨h1, h2⟩ := h
    obtain ⟨h3, h4⟩ := ArgsOk.spec h2
    refine ⟨by simp [h3], fun i a' x' ha hx => ?_⟩
    match i, ha, hx with
    | 0, ha, hx => simp at ha hx; subst ha; subst hx; exact h1
    | i + 1, ha, hx => exact h4 i a' x' (by simpa using ha) (by simpa using hx)
section
variable {P : Program} {T : Nat → Option AV} {H : Hp} {nm : Nat} {v v0 : AV} {d : Option Tmp} {ty : TypeId} {ps : String} {af : Array Edge} {gd : Option (Nat × Bool)}
theorem op_call {f : FuncId} {fn : Func} {cc : Code} {xs : Array Operand} {ts : Array TypeId} {args : List AV} {H0 H1 U : List (Nat × Option ABlk)} {wr : Bool} (L N : List (Nat × Nat)) (hm : Meets P f args H0 v0 H1)
    (hf : P.funcs[f]? = some fn) (hname : (fn.name == "runtime.NumGoroutine") = false) (hb : fn.body = some cc)
    (hL : LOkC L = true) (hN : NOk N nm U = true) (ha : ArgsOk T L xs.toList args) (hH : HLeC H L H0) (hU : UOk L N H0 H1 U) (hC : Cov L U H0) (hv : nmOkF L N v0.names = true) :
    OpSem P T H ⟨d, .call { callee := .value (.func f), args := xs, argTypes := ts }, ty, ps, af, gd⟩ nm wr (v0.ren (fwd L N)) U := by
  intro E S n0 H2 a w hS hn0 hnm hgl _ hle hop hR hfr K Q hK
  simp only [LOkC, Bool.and_eq_true, List.all_eq_true, decide_eq_true_eq] at hL
  obtain ⟨hL1, hL2⟩ := hL
  simp only [NOk, List.all_eq_true, Bool.and_eq_true, decide_eq_true_eq] at hN
  obtain ⟨hN, hN2⟩ := hN
  have hLk : ∀ c b, lk L c = some b → 500 ≤ c ∧ c < 1000 ∧ 500 ≤ b := fun c b h => by
    have := hL1 _ (lk_mem h)
    exact ⟨Nat.le_of_ble_eq_true this.1.1, blt_true this.1.2, Nat.le_of_ble_eq_true this.2⟩
  have hsrc : ∀ c b, srcC L c = some b → (c < 500 ∧ b = c) ∨ (500 ≤ c ∧ c < 1000 ∧ 500 ≤ b ∧ lk L c = some b) := fun c b h => by
    unfold srcC at h
    split at h
    · rename_i e; injection h with h; exact .inl ⟨blt_true e, h.symm⟩
    · exact .inr ⟨(hLk c b h).1, (hLk c b h).2.1, (hLk c b h).2.2, h⟩
  have sinj : ∀ c c' b, srcC L c = some b → srcC L c' = some b → c = c' := fun c c' b h1 h2 => by
    rcases hsrc c b h1 with ⟨q1, q2⟩ | ⟨q1, q2, q3, q4⟩ <;> rcases hsrc c' b h2 with ⟨r1, r2⟩ | ⟨r1, r2, r3, r4⟩
    · omega
    · omega
    · omega
    · exact lk_inj hL2 q4 r4
  have hNk : ∀ b c, lk N b = some c → nm ≤ b ∧ b < nm + 8 ∧ 1000 ≤ c ∧ (lk U b).isSome = true := fun b c h => by
    have := hN _ (lk_mem h)
    exact ⟨Nat.le_of_ble_eq_true this.1.1.1, blt_true this.1.1.2, Nat.le_of_ble_eq_true this.1.2, this.2⟩
  let Ec : Emb := fun c => match srcC L c with | some b => E b | none => none
  have hEc : ∀ c, Ec c = match srcC L c with | some b => E b | none => none := fun _ => rfl
  let Sc : Nat → Prop := fun l => (∃ c k s, hget H0 c = some k ∧ k.own = true ∧ Ec c = some (l, s)) ∨ w.heap.size ≤ l
  obtain ⟨hlen, hargs⟩ := ha.spec
  -- the caller's block of a block of the called function's
  have hblk : ∀ c k2, hget H0 c = some k2 → ∃ b k, srcC L c = some b ∧ H2 b = some k ∧ k.c.ren (backC L) = k2.c ∧ k.elem = k2.elem ∧ (k2.own = true → k.own = true) ∧ nmOkC L k.c.names = true := fun c k2 h => by
    obtain ⟨b, k, h1, h2, h3⟩ := hH.spec c k2 (hget_mem h)
    exact ⟨b, k, h1, hle b k h2, h3⟩
  have hRc : RH Ec Sc (hget H0) w := by
    refine ⟨fun c k2 h => ?_, fun c c' k2 k2' l s s' h1 h2 h3 h4 h5 => ?_, fun c k2 l s h1 h2 h3 => .inl ⟨c, k2, s, h1, h2, h3⟩⟩
    · obtain ⟨b, k, g1, g2, g3, g4, g5, g6⟩ := hblk c k2 h
      obtain ⟨l, s, q1, q2⟩ := hR.blk b k g2
      refine ⟨l, s, by rw [hEc, g1]; exact q1, ?_⟩
      have := q2.ren (E' := Ec) (r := backC L) (fun b hb p hp => nmOkC_spec g6 b hb p hp) k2.own g5
      rw [g3, g4] at this
      exact this
    · obtain ⟨b, k, g1, g2, _, _, g5, _⟩ := hblk c k2 h1
      obtain ⟨b', k', g1', g2', _, _, _, _⟩ := hblk c' k2' h2
      rw [hEc, g1] at h4
      rw [hEc, g1'] at h5
      have e := hR.inj b b' k k' l s s' g2 g2' (g5 h3) h4 h5
      subst e
      exact sinj c c' b g1 g1'
  have hcall := hm Ec Sc w.heap.size (xs.map a.eval) w (fun g hg => by
      have : Nat.blt g 500 = true := Nat.ble_eq_true_of_le hg
      rw [hEc]; simp only [srcC, this]; exact hgl g hg)
    (fun c hc => by
      have h1 : Nat.blt c 500 = false := by
        cases hq : Nat.blt c 500 with
        | false => rfl
        | true => have := blt_true hq; omega
      have h2 : lk L c = none := by
        cases hl : lk L c with
        | none => rfl
        | some x => have := hLk c x hl; omega
      rw [hEc]; simp [srcC, h1, h2])
    (by simp [hlen]) (fun i q yv hq hy => by
      have hi : i < args.length := (List.getElem?_eq_some_iff.1 hq).1
      have hi2 : i < xs.toList.length := by omega
      obtain ⟨u, h1, rfl, h3⟩ := hargs i q xs.toList[i] hq (List.getElem?_eq_getElem hi2)
      have hi3 : i < xs.size := by simpa using hi2
      have hy' : yv = a.eval xs[i] := by
        rw [Array.getElem?_map, Array.getElem?_eq_getElem hi3] at hy
        simpa using hy.symm
      subst hy'
      have := hop xs[i] (by simp [Op.operands, Call.operands]) u (by simpa using h1)
      exact this.ren fun b hb p hp => nmOkC_spec h3 b hb p hp)
    hRc (fun k hk => .inr hk) (Nat.le_refl _)
  unfold Oper.wp
  have hrun : (execOp a.eval ⟨d, .call { callee := .value (.func f), args := xs, argTypes := ts }, ty, ps, af, gd⟩).run P w = .ok (.enter f (xs.map a.eval)) w := by
    have h1 : fn.name ≠ "runtime.NumGoroutine" := by simpa using hname
    have hcf : (callFunc f (xs.map a.eval)).run P w = .ok (.enter f (xs.map a.eval)) w := by simp [callFunc, hf, h1, hb]
    simp [execOp, resolve, invoke, Act.eval, Deferred.ofValue, hcf]
  rw [hrun, Oper.upon_enter]
  refine hcall.mono fun ed w' hD => ?_
  obtain ⟨y, E', rfl, hpin, hrel, hR', hF⟩ := hD
  let E2 : Emb := fun b => match lk N b with | some c => E' c | none => E b
  have hE2 : ∀ b, E2 b = match lk N b with | some c => E' c | none => E b := fun _ => rfl
  have hE2old : ∀ b p, E b = some p → E2 b = some p := fun b p hp => by
    rw [hE2]
    cases hl : lk N b with
    | none => exact hp
    | some c => have := hNk b c hl; rw [hfr b this.1 this.2.1] at hp; cases hp
  have hfwd : ∀ ns, nmOkF L N ns = true → ∀ c ∈ ns, ∀ p, E' c = some p → E2 (fwd L N c) = some p := by
    intro ns
    induction ns with
    | nil => intro _ c hc; cases hc
    | cons n ns ih =>
      intro h c hc p hp
      simp only [nmOkF, Bool.and_eq_true] at h
      rcases List.mem_cons.1 hc with rfl | hc
      · have h1 := h.1
        cases hs : srcC L c with
        | some b =>
          rw [hs] at h1
          have hlt := blt_true h1
          have : E b = some p := by rw [hpin c hlt, hEc, hs] at hp; exact hp
          have e : fwd L N c = b := by simp [fwd, hs]
          rw [e]; exact hE2old b p this
        | none =>
          rw [hs] at h1
          simp only at h1
          cases hl : lk N (fwd L N c) with
          | none => rw [hl] at h1; cases h1
          | some c' =>
            rw [hl] at h1
            have e := Nat.eq_of_beq_eq_true h1; subst e
            rw [hE2, hl]; exact hp
      · exact ih h.2 c hc p hp
  -- a block that is written is given anew
  have hown : ∀ b k l s, H2 b = some k → E b = some (l, s) → lk U b = none → ¬ Sc l := fun b k l s hk he hu hs => by
    obtain ⟨l', s', q1, q2⟩ := hR.blk b k hk
    rw [he] at q1; injection q1 with q1; injection q1 with q1 _; subst q1
    rcases hs with ⟨c, k2, s2, h1, h2, h3⟩ | hs
    · obtain ⟨b', q, h4, h5⟩ := hC.spec c k2 (hget_mem h1) h2
      obtain ⟨b2, k3, g1, g2, _, _, g5, _⟩ := hblk c k2 h1
      have hb2 : b2 = b' := by
        rcases hsrc c b2 g1 with ⟨r1, r2⟩ | ⟨_, _, _, r4⟩
        · have := hLk c b' h4; omega
        · rw [h4] at r4; injection r4 with r4; exact r4.symm
      subst hb2
      rw [hEc, g1] at h3
      have := hR.inj b2 b k3 k l s2 s g2 hk (g5 h2) h3 he
      subst this
      rw [hu] at h5; cases h5
    · have := q2.lt; omega
  have hSc : ∀ l, Sc l → S l := fun l hs => by
    rcases hs with ⟨c, k2, s2, h1, h2, h3⟩ | hs
    · obtain ⟨b2, k3, g1, g2, _, _, g5, _⟩ := hblk c k2 h1
      rw [hEc, g1] at h3
      exact hR.own b2 k3 l s2 g2 (g5 h2) h3
    · exact hS l (by omega)
  -- what a name given anew stands for
  have hnew : ∀ b k', lk U b = some (some k') → ∃ c k l s, hget H1 c = some k ∧ k.own = true ∧ k' = ⟨k.c.ren (fwd L N), k.elem, true⟩ ∧ nmOkF L N k.c.names = true ∧ E' c = some (l, s) ∧ E2 b = some (l, s) ∧ BAt E' k w' l s ∧ (lk N b = some c ∨ lk L c = some b) := fun b k' hu => by
    obtain ⟨c, k, h1, h2, h3, h4, h5⟩ := hU.spec b k' (lk_mem hu)
    obtain ⟨l, s, h6, h7⟩ := hR'.blk c k h1
    refine ⟨c, k, l, s, h1, h3, h2, h4, h6, ?_, h7, h5.imp id And.left⟩
    rcases h5 with h5 | ⟨h5, _⟩
    · rw [hE2, h5]; exact h6
    · have hc := hLk c b h5
      have hs : srcC L c = some b := by
        have : Nat.blt c 500 = false := by
          cases hq : Nat.blt c 500 with
          | false => rfl
          | true => have := blt_true hq; omega
        simp only [srcC, this]; exact h5
      have h8 : E b = some (l, s) := by rw [hpin c hc.2.1, hEc, hs] at h6; exact h6
      exact hE2old b _ h8
  have hupd : ∀ b k, upd U H2 b = some k → lk U b = some (some k) ∨ (lk U b = none ∧ H2 b = some k) := fun b k h => by
    simp only [upd] at h
    cases hu : lk U b with
    | none => rw [hu] at h; exact .inr ⟨rfl, h⟩
    | some q => rw [hu] at h; subst h; exact .inl rfl
  have hold : ∀ b k, H2 b = some k → lk U b = none → ∃ l s, E b = some (l, s) ∧ E2 b = some (l, s) ∧ BAt E2 k w' l s ∧ l < w.heap.size ∧ ¬ Sc l := fun b k hk hu => by
    obtain ⟨l, s, q1, q2⟩ := hR.blk b k hk
    have hn := hown b k l s hk q1 hu
    exact ⟨l, s, q1, hE2old b _ q1, q2.mono hE2old (hF.block l q2.lt hn), q2.lt, hn⟩
  refine hK y w' E2 (fun b hb => ?_) (hrel.ren fun c hc p hp => hfwd _ hv c hc p hp) ⟨fun b k h => ?_, fun b b' k k' l s s' h1 h2 h3 h4 h5 => ?_, fun b k l s h1 h2 h3 => ?_⟩ (hF.mono fun k hk hs => hSc k hs)
  · rw [hE2]
    cases hl : lk N b with
    | none => rfl
    | some c =>
      have := hNk b c hl
      rcases hb with hb | hb
      · rw [hb] at this; simp at this
      · exact absurd ⟨this.1, this.2.1⟩ hb
  · rcases hupd b k h with hu | ⟨hu, hk⟩
    · obtain ⟨c, kc, l, s, h1, h2, rfl, h4, h5, h6, h7, _⟩ := hnew b k hu
      exact ⟨l, s, h6, h7.ren (fun c hc p hp => hfwd _ h4 c hc p hp) true (fun _ => h2)⟩
    · obtain ⟨l, s, _, q2, q3, _⟩ := hold b k hk hu
      exact ⟨l, s, q2, q3⟩
  · rcases hupd b k h1 with hu | ⟨hu, hk⟩ <;> rcases hupd b' k' h2 with hu' | ⟨hu', hk'⟩
    · obtain ⟨c, kc, l1, s1, g1, g2, _, _, g5, g6, _, g8⟩ := hnew b k hu
      obtain ⟨c', kc', l1', s1', g1', g2', _, _, g5', g6', _, g8'⟩ := hnew b' k' hu'
      rw [h4] at g6; injection g6 with g6; injection g6 with e1 e2; subst e1; subst e2
      rw [h5] at g6'; injection g6' with g6'; injection g6' with e1 e2; subst e1; subst e2
      have e := hR'.inj c c' kc kc' l s s' g1 g1' g2 g5 g5'
      subst e
      rcases g8 with g8 | g8 <;> rcases g8' with g8' | g8'
      · exact lk_inj hN2 g8 g8'
      · have i1 := hNk b c g8; have i2 := hLk c b' g8'; omega
      · have i1 := hNk b' c g8'; have i2 := hLk c b g8; omega
      · rw [g8] at g8'; injection g8'
    · obtain ⟨c, kc, l1, s1, g1, g2, _, _, g5, g6, _, g8⟩ := hnew b k hu
      obtain ⟨l2, s2, q1, q2, _, q4, q5⟩ := hold b' k' hk' hu'
      rw [h4] at g6; injection g6 with g6; injection g6 with e1 e2; subst e1; subst e2
      rw [h5] at q2; injection q2 with q2; injection q2 with e1 e2; subst e1; subst e2
      exact absurd (hR'.own c kc l s g1 g2 g5) q5
    · obtain ⟨c, kc, l1, s1, g1, g2, _, _, g5, g6, _, g8⟩ := hnew b' k' hu'
      obtain ⟨l2, s2, q1, q2, _, q4, q5⟩ := hold b k hk hu
      rw [h5] at g6; injection g6 with g6; injection g6 with e1 e2; subst e1; subst e2
      rw [h4] at q2; injection q2 with q2; injection q2 with e1 e2; subst e1; subst e2
      exact absurd (hR'.own c kc l s' g1 g2 g5) q5
    · obtain ⟨l1, s1, q1, q2, _⟩ := hold b k hk hu
      obtain ⟨l2, s2, r1, r2, _⟩ := hold b' k' hk' hu'
      rw [h4] at q2; injection q2 with q2; injection q2 with e1 e2; subst e1; subst e2
      rw [h5] at r2; injection r2 with r2; injection r2 with e1 e2; subst e1; subst e2
      exact hR.inj b b' k k' l s s' hk hk' h3 q1 r1
  · rcases hupd b k h1 with hu | ⟨hu, hk⟩
    · obtain ⟨c, kc, l1, s1, g1, g2, _, _, g5, g6, _, g8⟩ := hnew b k hu
      rw [h3] at g6; injection g6 with g6; injection g6 with e1 e2; subst e1; subst e2
      exact hSc l (hR'.own c kc l s g1 g2 g5)
    · obtain ⟨l1, s1, q1, q2, _⟩ := hold b k hk hu
      rw [h3] at q2; injection q2 with q2; injection q2 with e1 e2; subst e1; subst e2
      exact hR.own b k l s hk h2 q1
end
end Go.Proofs.YtaenhghihhhikaaDoor
