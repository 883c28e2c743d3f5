/-
  Regions whose order is drawn, over abstract values. Nothing of the program is named here.
-/
import Derived.Test.YtaenhghihhhikaaDoorAe8
namespace Go.Proofs.YtaenhghihhhikaaDoor
open Go.RowKit

def Tput (f : Nat → Option AV) (d : Option Nat) (v : AV) : Nat → Option AV := match d with
  | some d => fun t => match Nat.beq d t with
    | true => some v
    | false => f t
  | none => f
theorem lk_cons (d : Nat) (v : AV) (T : List (Nat × AV)) : lk ((d, v) :: T) = Tput (lk T) (some d) v := rfl
theorem Tput_same {f : Nat → Option AV} {d : Nat} {v : AV} {t : Nat} (h : d ≠ t) : Tput f (some d) v t = f t := by
  have : Nat.beq d t = false := by
    cases hb : Nat.beq d t with
    | false => rfl
    | true => exact absurd (Nat.eq_of_beq_eq_true hb) h
  simp [Tput, this]
theorem Tput_at {f : Nat → Option AV} {d : Nat} {v : AV} : Tput f (some d) v d = some v := by simp [Tput]
theorem Tput_comm {f : Nat → Option AV} {d e : Option Nat} {u v : AV} (h : ∀ x, d = some x → e ≠ some x) : Tput (Tput f d u) e v = Tput (Tput f e v) d u := by
  cases d with
  | none => rfl
  | some d =>
    cases e with
    | none => rfl
    | some e =>
      have hne : d ≠ e := fun h2 => h d rfl (h2 ▸ rfl)
      funext t
      by_cases h1 : d = t
      · subst h1; rw [Tput_at, Tput_same (fun h => hne h.symm), Tput_at]
      · rw [Tput_same (f := Tput f (some e) v) h1]
        by_cases h2 : e = t
        · subst h2; rw [Tput_at, Tput_at]
        · rw [Tput_same h2, Tput_same h1, Tput_same h2]

/-- What an operation reads: its operands' slots, and its guard's. -/
def rdsOf (ops : List Oper) (o : Oper) : List Nat :=
  (o.op.operands.toList.filterMap fun | .tmp t => some t | _ => none) ++ (match o.guard with
    | some (g, _) => ((ops[g]?).bind (·.dst)).toList
    | none => [])
structure Dc where
  P : Program
  ops : List Oper
  base : Nat
  /-- of each operation those that surely come before it -/
  cl : List (List Nat)
  /-- the operations that touch memory, and those that write -/
  ms : List Nat
  ws : List Nat
namespace Dc
def pre (c : Dc) (i : Nat) : List Nat := (c.cl[i]?).getD []
def mem (c : Dc) (i : Nat) : Bool := c.ms.contains i
def wr (c : Dc) (i : Nat) : Bool := c.ws.contains i
def hidden (c : Dc) (i b : Nat) : Bool := Nat.ble c.base b && !(c.pre i).contains ((b - c.base) / 8)
def vw (c : Dc) (i : Nat) (F : Hp) : Hp := match c.wr i with
  | true => F
  | false => match c.mem i with
    | true => fun b => match c.hidden i b with
      | true => none
      | false => F b
    | false => fun _ => none
def dstOf (c : Dc) (i : Nat) : Option Nat := (c.ops[i]?).bind (·.dst)
def rds (c : Dc) (i : Nat) : List Nat := match c.ops[i]? with
  | some o => rdsOf c.ops o
  | none => []
/-- The static conditions on the region. -/
def pairOk (c : Dc) (i j : Nat) : Bool := (c.pre j).contains i ||
  (!((c.wr i && c.mem j) || (c.mem i && c.wr j)) && !((c.dstOf i).any fun d => (c.rds j).contains d) && !((c.dstOf j).any fun d => (c.rds i).contains d) && !((c.dstOf i).isSome && c.dstOf i == c.dstOf j))
def ok (c : Dc) : Bool :=
  (List.range c.ops.length).all fun j =>
    ((c.pre j).all fun x => Nat.blt x j) && (!c.wr j || c.mem j) &&
    (match c.ops[j]? with
      | some o => (o.after.toList.all fun e => !Region.binds .any e || Nat.blt e.on j) &&
        ((c.pre j).all fun x => o.after.toList.any fun e => Region.binds .any e && (Nat.beq e.on x || (c.pre e.on).contains x)) &&
        (match o.guard with | some (g, _) => (c.pre j).contains g | none => true)
      | none => true) &&
    (List.range j).all fun i => c.pairOk i j
end Dc
/-- The guard says yes. -/
def GYes (c : Dc) (T : Nat → Option AV) : Option (Nat × Bool) → Prop
  | none => True
  | some (j, want) => ∃ g, (c.ops[j]?).bind (·.dst) = some g ∧ T g = some (.bool want)
def GNo (c : Dc) (T : Nat → Option AV) : Option (Nat × Bool) → Prop
  | none => False
  | some (j, want) => ∃ g, (c.ops[j]?).bind (·.dst) = some g ∧ T g = some (.bool (!want))
inductive DCh (c : Dc) : List Nat → (Nat → Option AV) → Hp → (Nat → Option AV) → Hp → Prop
  | nil (T : Nat → Option AV) (F : Hp) : DCh c [] T F T F
  | op (i : Nat) (l : List Nat) (o : Oper) (v : AV) (U : List (Nat × Option ABlk)) (T : Nat → Option AV) (F : Hp) (T' : Nat → Option AV) (F' : Hp) : c.ops[i]? = some o → GYes c T o.guard →
      OpSem c.P T (c.vw i F) o (c.base + 8 * i) (c.wr i) v U → (c.mem i = false → U = []) → (∀ b, lk U b ≠ none → (c.wr i = true ∧ b < c.base + 8 * i + 8) ∨ (c.base + 8 * i ≤ b ∧ b < c.base + 8 * i + 8)) →
      DCh c l (Tput T o.dst v) (upd U F) T' F' → DCh c (i :: l) T F T' F'
  | no (i : Nat) (l : List Nat) (o : Oper) (T : Nat → Option AV) (F : Hp) (T' : Nat → Option AV) (F' : Hp) : c.ops[i]? = some o → GNo c T o.guard →
      DCh c l (Tput T o.dst (.val undef)) F T' F' → DCh c (i :: l) T F T' F'
theorem OpSem.congrT {P : Program} {T T1 : Nat → Option AV} {H : Hp} {o : Oper} {nm : Nat} {wr : Bool} {v : AV} {U : List (Nat × Option ABlk)} (h : OpSem P T1 H o nm wr v U) (hT : ∀ x ∈ o.op.operands, aev T x = aev T1 x) : OpSem P T H o nm wr v U := by
  intro E S n0 H2 a w h1 h2 h3 h4 h5 h6 h7 h8 h9 K Q hK
  exact h E S n0 H2 a w h1 h2 h3 h4 h5 h6 (fun x hx u hu => h7 x hx u (by rw [hT x hx]; exact hu)) h8 h9 K Q hK
theorem aev_congr {T T1 : Nat → Option AV} {x : Operand} (h : ∀ t, x = .tmp t → T t = T1 t) : aev T x = aev T1 x := by
  cases x with
  | tmp t => exact h t rfl
  | _ => rfl
theorem mem_rds {ops : List Oper} {o : Oper} {t : Nat} (h : Operand.tmp t ∈ o.op.operands) : t ∈ rdsOf ops o := by
  simp only [rdsOf, List.mem_append, List.mem_filterMap]
  exact .inl ⟨.tmp t, by simpa using h, rfl⟩
theorem guard_rds {ops : List Oper} {o : Oper} {j g : Nat} {want : Bool} (h : o.guard = some (j, want)) (hg : (ops[j]?).bind (·.dst) = some g) : g ∈ rdsOf ops o := by
  simp only [rdsOf, List.mem_append, h, hg]
  exact .inr (by simp)
theorem Tput_off {f : Nat → Option AV} {d : Option Nat} {v : AV} {t : Nat} (h : d ≠ some t) : Tput f d v t = f t := by
  cases d with
  | none => rfl
  | some d => exact Tput_same (fun e => h (e ▸ rfl))
section
variable {c : Dc}
theorem ok_spec (hok : c.ok = true) {i j : Nat} (hij : i < j) (hj : j < c.ops.length) (hn : i ∉ c.pre j) : (c.wr i && c.mem j) = false ∧ (c.mem i && c.wr j) = false ∧ (∀ d, c.dstOf i = some d → d ∉ c.rds j) ∧ (∀ d, c.dstOf j = some d → d ∉ c.rds i) ∧ (∀ d, c.dstOf i = some d → c.dstOf j ≠ some d) := by
  have h := List.all_eq_true.1 hok j (List.mem_range.2 hj)
  simp only [Bool.and_eq_true] at h
  have h2 := List.all_eq_true.1 h.2 i (List.mem_range.2 hij)
  unfold Dc.pairOk at h2
  have h3 : (c.pre j).contains i = false := by
    cases hq : (c.pre j).contains i with
    | false => rfl
    | true => exact absurd (List.contains_iff_mem.1 hq) hn
  rw [h3, Bool.false_or] at h2
  simp only [Bool.and_eq_true, Bool.not_eq_true', Bool.or_eq_false_iff] at h2
  obtain ⟨⟨⟨⟨a1, a2⟩, b⟩, d⟩, e⟩ := h2
  refine ⟨a1, a2, fun q hq hm => ?_, fun q hq hm => ?_, fun q hq hm => ?_⟩
  · rw [hq] at b; simp only [Option.any_some] at b; rw [List.contains_iff_mem.2 hm] at b; cases b
  · rw [hq] at d; simp only [Option.any_some] at d; rw [List.contains_iff_mem.2 hm] at d; cases d
  · rw [hq, hm] at e; simp at e
theorem wr_mem (hok : c.ok = true) {j : Nat} (hj : j < c.ops.length) (h : c.wr j = true) : c.mem j = true := by
  have h1 := List.all_eq_true.1 hok j (List.mem_range.2 hj)
  simp only [Bool.and_eq_true, Bool.or_eq_true, Bool.not_eq_true'] at h1
  rcases h1.1.1.2 with h2 | h2
  · rw [h] at h2; cases h2
  · exact h2
theorem pre_lt (hok : c.ok = true) {j x : Nat} (hj : j < c.ops.length) (h : x ∈ c.pre j) : x < j := by
  have h1 := List.all_eq_true.1 hok j (List.mem_range.2 hj)
  simp only [Bool.and_eq_true] at h1
  exact blt_true (List.all_eq_true.1 h1.1.1.1 x h)
/-- The view of one operation does not depend on another one's blocks, if the other one does not surely come before it. -/
theorem vw_off {i h : Nat} {F : Hp} {U : List (Nat × Option ABlk)} (hi : h ∉ c.pre i) (h1 : (c.wr h && c.mem i) = false) (h2 : (c.mem h && c.wr i) = false) (h3 : c.mem h = false → U = []) (hwm : c.wr i = true → c.mem i = true)
    (h4 : ∀ b, lk U b ≠ none → (c.wr h = true ∧ b < c.base + 8 * h + 8) ∨ (c.base + 8 * h ≤ b ∧ b < c.base + 8 * h + 8)) : c.vw i (upd U F) = c.vw i F := by
  unfold Dc.vw
  cases hw : c.wr i with
  | true =>
    have : c.mem h = false := by rw [hw, Bool.and_true] at h2; exact h2
    rw [h3 this]; rfl
  | false =>
    cases hm : c.mem i with
    | true =>
      have hwh : c.wr h = false := by rw [hm, Bool.and_true] at h1; exact h1
      funext b
      simp only
      cases hb : c.hidden i b with
      | true => rfl
      | false =>
        have : lk U b = none := by
          cases hl : lk U b with
          | none => rfl
          | some r =>
            rcases h4 b (by rw [hl]; simp) with ⟨h5, _⟩ | ⟨h5, h6⟩
            · rw [hwh] at h5; cases h5
            · exfalso
              have e : (b - c.base) / 8 = h := by omega
              have hc : (c.pre i).contains h = false := by
                cases hq : (c.pre i).contains h with
                | false => rfl
                | true => exact absurd (List.contains_iff_mem.1 hq) hi
              unfold Dc.hidden at hb
              rw [e, hc, Nat.ble_eq_true_of_le (show c.base ≤ b by omega)] at hb
              cases hb
        simp only [upd, this]
    | false => rfl
theorem upd_comm {F : Hp} {U V : List (Nat × Option ABlk)} (h : ∀ b, lk U b ≠ none → lk V b = none) : upd U (upd V F) = upd V (upd U F) := by
  funext b
  simp only [upd]
  cases hu : lk U b with
  | none => rfl
  | some r => rw [h b (by rw [hu]; simp)]
/-- An operation that may come first is taken out of the chain. -/
theorem DCh.take (hok : c.ok = true) : ∀ (l : List Nat) (T : Nat → Option AV) (F : Hp) (T' : Nat → Option AV) (F' : Hp), DCh c l T F T' F' → l.Pairwise (· < ·) → (∀ x ∈ l, x < c.ops.length) → ∀ i ∈ l, (∀ x ∈ l, x ∉ c.pre i) →
    ∃ o, c.ops[i]? = some o ∧ ((GYes c T o.guard ∧ ∃ v U, OpSem c.P T (c.vw i F) o (c.base + 8 * i) (c.wr i) v U ∧ (c.mem i = false → U = []) ∧ (∀ b, lk U b ≠ none → (c.wr i = true ∧ b < c.base + 8 * i + 8) ∨ (c.base + 8 * i ≤ b ∧ b < c.base + 8 * i + 8)) ∧
      DCh c (l.erase i) (Tput T o.dst v) (upd U F) T' F') ∨ (GNo c T o.guard ∧ DCh c (l.erase i) (Tput T o.dst (.val undef)) F T' F')) := by
  intro l T F T' F' hD
  induction hD with
  | nil T F => intro _ _ i hi; cases hi
  | op h l o v U T F T' F' h1 h2 h3 h4 h5 hrest ih =>
    intro hp hlt i hi hr
    by_cases he : h = i
    · subst he
      rw [List.erase_cons_head]
      exact ⟨o, h1, .inl ⟨h2, v, U, h3, h4, h5, hrest⟩⟩
    · have hil : i ∈ l := (List.mem_cons.1 hi).resolve_left (fun e => he e.symm)
      obtain ⟨p1, p2⟩ := List.pairwise_cons.1 hp
      have hhi := p1 i hil
      have hh := hlt h List.mem_cons_self
      have hii := hlt i (List.mem_cons_of_mem _ hil)
      obtain ⟨s1, s2, s3, s4, s5⟩ := ok_spec hok hhi hii (hr h List.mem_cons_self)
      obtain ⟨oi, g1, g2⟩ := ih p2 (fun x hx => hlt x (List.mem_cons_of_mem _ hx)) i hil (fun x hx => hr x (List.mem_cons_of_mem _ hx))
      have hdh : c.dstOf h = o.dst := by simp [Dc.dstOf, h1]
      have hdi : c.dstOf i = oi.dst := by simp [Dc.dstOf, g1]
      have hrh : c.rds h = rdsOf c.ops o := by simp [Dc.rds, h1]
      have hri : c.rds i = rdsOf c.ops oi := by simp [Dc.rds, g1]
      rw [hdh, hri] at s3
      rw [hdi, hrh] at s4
      rw [hdh, hdi] at s5
      have herase : (h :: l).erase i = h :: l.erase i := List.erase_cons_tail (by simpa using he)
      have hTi : ∀ v' : AV, ∀ x ∈ oi.op.operands, aev T x = aev (Tput T o.dst v') x := fun v' x hx => aev_congr fun t ht => by
        subst ht; rw [Tput_off (fun e => s3 t e (mem_rds hx))]
      have hTh : ∀ v' : AV, ∀ x ∈ o.op.operands, aev (Tput T oi.dst v') x = aev T x := fun v' x hx => aev_congr fun t ht => by
        subst ht; rw [Tput_off (fun e => s4 t e (mem_rds hx))]
      have hcomm : ∀ v', Tput (Tput T o.dst v) oi.dst v' = Tput (Tput T oi.dst v') o.dst v := fun v' => Tput_comm fun x hx => s5 x hx
      have gh : ∀ v', GYes c (Tput T oi.dst v') o.guard := fun v' => by
        unfold GYes at h2 ⊢
        split at h2
        · trivial
        · rename_i j want hg
          obtain ⟨g, q1, q2⟩ := h2
          exact ⟨g, q1, by rw [Tput_off (fun e => s4 g e (guard_rds hg q1))]; exact q2⟩
      rw [herase]
      refine ⟨oi, g1, ?_⟩
      rcases g2 with ⟨k1, vi, Ui, k2, k3, k4, k5⟩ | ⟨k1, k5⟩
      · refine .inl ⟨?_, vi, Ui, ?_, k3, k4, ?_⟩
        · unfold GYes at k1 ⊢
          split at k1
          · trivial
          · rename_i j want hg
            obtain ⟨g, q1, q2⟩ := k1
            exact ⟨g, q1, by rw [Tput_off (fun e => s3 g e (guard_rds hg q1))] at q2; exact q2⟩
        · rw [vw_off (hr h List.mem_cons_self) s1 s2 h4 (wr_mem hok hii) h5] at k2
          exact k2.congrT (hTi v)
        · have hnot : i ∉ c.pre h := fun e => by have := pre_lt hok hh e; omega
          have s1' : (c.wr i && c.mem h) = false := by rw [Bool.and_comm]; exact s2
          have s2' : (c.mem i && c.wr h) = false := by rw [Bool.and_comm]; exact s1
          have hw := vw_off (F := F) hnot s1' s2' k3 (wr_mem hok hh) k4
          refine .op h _ o v U _ _ T' F' h1 (gh vi) (by rw [hw]; exact h3.congrT (hTh vi)) h4 h5 ?_
          rw [← hcomm vi]
          have hU : upd U (upd Ui F) = upd Ui (upd U F) := upd_comm fun b hb => by
            cases hlb : lk Ui b with
            | none => rfl
            | some r =>
              exfalso
              have hmh : c.mem h = true := by
                cases hq : c.mem h with
                | true => rfl
                | false => rw [h4 hq] at hb; exact absurd rfl hb
              have hmi : c.mem i = true := by
                cases hq : c.mem i with
                | true => rfl
                | false => rw [k3 hq] at hlb; cases hlb
              rw [hmi, Bool.and_true] at s1
              rw [hmh, Bool.true_and] at s2
              rcases h5 b hb with ⟨e1, _⟩ | e1
              · rw [s1] at e1; cases e1
              · rcases k4 b (by rw [hlb]; simp) with ⟨e2, _⟩ | e2
                · rw [s2] at e2; cases e2
                · omega
          rw [hU]; exact k5
      · refine .inr ⟨?_, ?_⟩
        · unfold GNo at k1 ⊢
          split at k1
          · exact k1
          · rename_i j want hg
            obtain ⟨g, q1, q2⟩ := k1
            exact ⟨g, q1, by rw [Tput_off (fun e => s3 g e (guard_rds hg q1))] at q2; exact q2⟩
        · refine .op h _ o v U _ _ T' F' h1 (gh _) (h3.congrT (hTh _)) h4 h5 ?_
          rw [← hcomm]; exact k5
  | no h l o T F T' F' h1 h2 hrest ih =>
    intro hp hlt i hi hr
    by_cases he : h = i
    · subst he
      rw [List.erase_cons_head]
      exact ⟨o, h1, .inr ⟨h2, hrest⟩⟩
    · have hil : i ∈ l := (List.mem_cons.1 hi).resolve_left (fun e => he e.symm)
      obtain ⟨p1, p2⟩ := List.pairwise_cons.1 hp
      have hhi := p1 i hil
      have hh := hlt h List.mem_cons_self
      have hii := hlt i (List.mem_cons_of_mem _ hil)
      obtain ⟨s1, s2, s3, s4, s5⟩ := ok_spec hok hhi hii (hr h List.mem_cons_self)
      obtain ⟨oi, g1, g2⟩ := ih p2 (fun x hx => hlt x (List.mem_cons_of_mem _ hx)) i hil (fun x hx => hr x (List.mem_cons_of_mem _ hx))
      have hdh : c.dstOf h = o.dst := by simp [Dc.dstOf, h1]
      have hdi : c.dstOf i = oi.dst := by simp [Dc.dstOf, g1]
      have hrh : c.rds h = rdsOf c.ops o := by simp [Dc.rds, h1]
      have hri : c.rds i = rdsOf c.ops oi := by simp [Dc.rds, g1]
      rw [hdh, hri] at s3
      rw [hdi, hrh] at s4
      rw [hdh, hdi] at s5
      have herase : (h :: l).erase i = h :: l.erase i := List.erase_cons_tail (by simpa using he)
      have hTi : ∀ v' : AV, ∀ x ∈ oi.op.operands, aev T x = aev (Tput T o.dst v') x := fun v' x hx => aev_congr fun t ht => by
        subst ht; rw [Tput_off (fun e => s3 t e (mem_rds hx))]
      have hcomm : ∀ v v', Tput (Tput T o.dst v) oi.dst v' = Tput (Tput T oi.dst v') o.dst v := fun v v' => Tput_comm fun x hx => s5 x hx
      have gh : ∀ v', GNo c (Tput T oi.dst v') o.guard := fun v' => by
        unfold GNo at h2 ⊢
        split at h2
        · exact h2
        · rename_i j want hg
          obtain ⟨g, q1, q2⟩ := h2
          exact ⟨g, q1, by rw [Tput_off (fun e => s4 g e (guard_rds hg q1))]; exact q2⟩
      rw [herase]
      refine ⟨oi, g1, ?_⟩
      rcases g2 with ⟨k1, vi, Ui, k2, k3, k4, k5⟩ | ⟨k1, k5⟩
      · refine .inl ⟨?_, vi, Ui, k2.congrT (hTi _), k3, k4, ?_⟩
        · unfold GYes at k1 ⊢
          split at k1
          · trivial
          · rename_i j want hg
            obtain ⟨g, q1, q2⟩ := k1
            exact ⟨g, q1, by rw [Tput_off (fun e => s3 g e (guard_rds hg q1))] at q2; exact q2⟩
        · refine .no h _ o _ _ T' F' h1 (gh vi) ?_
          rw [← hcomm]; exact k5
      · refine .inr ⟨?_, ?_⟩
        · unfold GNo at k1 ⊢
          split at k1
          · exact k1
          · rename_i j want hg
            obtain ⟨g, q1, q2⟩ := k1
            exact ⟨g, q1, by rw [Tput_off (fun e => s3 g e (guard_rds hg q1))] at q2; exact q2⟩
        · refine .no h _ o _ _ T' F' h1 (gh _) ?_
          rw [← hcomm]; exact k5
/-- The state while a region is under way: the operations of l are still to come. -/
structure RF (E : Emb) (S : Nat → Prop) (n0 nt : Nat) (c : Dc) (l : List Nat) (T : Nat → Option AV) (F : Hp) (a : Act) (w : World) : Prop where
  rt : ∀ t v, T t = some v → Rel E v (a.tmps.getD t undef)
  nt : a.tmps.size = nt
  df : a.defers = []
  rh : RH E S F w
  fr : ∀ b, c.base ≤ b → ((b - c.base) / 8 ∈ l ∨ c.ops.length ≤ (b - c.base) / 8) → E b = none
  gl : ∀ g, g < 500 → ∃ s, E g = some (g, s)
  hS : ∀ k, n0 ≤ k → S k
  h0 : n0 ≤ w.heap.size
theorem RF.aev {E : Emb} {S : Nat → Prop} {n0 nt : Nat} {l : List Nat} {T : Nat → Option AV} {F : Hp} {a : Act} {w : World} (h : RF E S n0 nt c l T F a w) (x : Operand) (u : AV) (hx : aev T x = some u) : Rel E u (a.eval x) := by
  cases x with
  | tmp t => exact h.rt t u hx
  | const v => exact rel_cst E v u hx
  | global g =>
    simp only [Go.Proofs.YtaenhghihhhikaaDoor.aev] at hx
    split at hx
    · rename_i hg
      injection hx with hx; subst hx
      obtain ⟨s, hs⟩ := h.gl g (blt_true hg)
      exact .ptr g 0 g s hs
    · cases hx
  | func f => simp only [Go.Proofs.YtaenhghihhhikaaDoor.aev, Option.some.injEq] at hx; subst hx; exact .val _
theorem RF.put {E : Emb} {S : Nat → Prop} {n0 nt : Nat} {l : List Nat} {T : Nat → Option AV} {F : Hp} {a : Act} {w : World} (h : RF E S n0 nt c l T F a w) {d : Option Tmp} (hd : ∀ x, d = some x → x < nt) {v : AV} {y : Value} (hv : Rel E v y) : RF E S n0 nt c l (Tput T d v) F (a.put d y) w := by
  cases d with
  | none => exact h
  | some d =>
    refine ⟨fun t u ht => ?_, ?_, h.df, h.rh, h.fr, h.gl, h.hS, h.h0⟩
    · rw [put_getD (by rw [h.nt]; exact hd d rfl)]
      by_cases e : d = t
      · subst e; rw [Tput_at] at ht; injection ht with ht; subst ht; rw [if_pos rfl]; exact hv
      · rw [Tput_same e] at ht; rw [if_neg e]; exact h.rt t u ht
    · simp [Act.put, h.nt]
theorem yielded_F {E : Emb} {S : Nat → Prop} {n0 nt : Nat} {l : List Nat} {T : Nat → Option AV} {F : Hp} {a : Act} {w : World} (hR : RF E S n0 nt c l T F a w) {j g : Nat} {b : Bool} (h1 : (c.ops[j]?).bind (·.dst) = some g) (h2 : T g = some (.bool b)) : yielded c.ops.toArray a.tmps j = some b := by
  have h3 := (hR.rt g _ h2).bool_inv
  have h4 : a.tmps[g]? = some (.bool b) := by
    rw [Array.getD_eq_getD_getElem?] at h3
    cases hq : a.tmps[g]? with
    | none => rw [hq] at h3; cases h3
    | some y => rw [hq] at h3; simp at h3; rw [h3]
  unfold yielded
  rw [List.getElem?_toArray, h1]
  simp [h4]
theorem GYes.ok {E : Emb} {S : Nat → Prop} {n0 nt : Nat} {l : List Nat} {T : Nat → Option AV} {F : Hp} {a : Act} {w : World} {o : Oper} (h : GYes c T o.guard) (hR : RF E S n0 nt c l T F a w) : Region.wanted o (yielded c.ops.toArray a.tmps) = true := by
  unfold Region.wanted
  unfold GYes at h
  split
  · rfl
  · rename_i j want hg
    rw [hg] at h
    obtain ⟨g, h1, h2⟩ := h
    rw [yielded_F hR h1 h2]; simp
theorem GNo.ok {E : Emb} {S : Nat → Prop} {n0 nt : Nat} {l : List Nat} {T : Nat → Option AV} {F : Hp} {a : Act} {w : World} {o : Oper} (h : GNo c T o.guard) (hR : RF E S n0 nt c l T F a w) : Region.wanted o (yielded c.ops.toArray a.tmps) = false := by
  unfold Region.wanted
  unfold GNo at h
  split
  · rename_i hg; rw [hg] at h; exact h.elim
  · rename_i j want hg
    rw [hg] at h
    obtain ⟨g, h1, h2⟩ := h
    rw [yielded_F hR h1 h2]; simp
theorem vw_le (i : Nat) (F : Hp) : ∀ b k, c.vw i F b = some k → F b = some k := by
  intro b k h
  unfold Dc.vw at h
  cases hw : c.wr i with
  | true => rw [hw] at h; exact h
  | false =>
    rw [hw] at h
    cases hm : c.mem i with
    | true =>
      rw [hm] at h
      simp only at h
      cases hh : c.hidden i b with
      | true => rw [hh] at h; cases h
      | false => rw [hh] at h; exact h
    | false => rw [hm] at h; cases h
theorem edges_lt (hok : c.ok = true) {j : Nat} {o : Oper} (hj : c.ops[j]? = some o) {e : Edge} (he : e ∈ o.after.toList) (hb : Region.binds .any e = true) : e.on < j := by
  have hlt : j < c.ops.length := (List.getElem?_eq_some_iff.1 hj).1
  have h1 := List.all_eq_true.1 hok j (List.mem_range.2 hlt)
  simp only [Bool.and_eq_true, hj] at h1
  have h2 := List.all_eq_true.1 h1.1.2.1.1 e he
  rw [hb] at h2
  exact blt_true (by simpa using h2)
theorem pre_edge (hok : c.ok = true) {j : Nat} {o : Oper} (hj : c.ops[j]? = some o) {x : Nat} (hx : x ∈ c.pre j) : ∃ e ∈ o.after.toList, Region.binds .any e = true ∧ (e.on = x ∨ x ∈ c.pre e.on) := by
  have hlt : j < c.ops.length := (List.getElem?_eq_some_iff.1 hj).1
  have h1 := List.all_eq_true.1 hok j (List.mem_range.2 hlt)
  simp only [Bool.and_eq_true, hj] at h1
  have h2 := List.all_eq_true.1 h1.1.2.1.2 x hx
  obtain ⟨e, he, h3⟩ := List.any_eq_true.1 h2
  simp only [Bool.and_eq_true, Bool.or_eq_true] at h3
  refine ⟨e, he, h3.1, ?_⟩
  rcases h3.2 with h4 | h4
  · exact .inl (Nat.eq_of_beq_eq_true h4)
  · exact .inr (List.contains_iff_mem.1 h4)
/-- The bindings' targets are done before: so is all that surely comes before. -/
def Down (c : Dc) (l : List Nat) : Prop := ∀ i o, c.ops[i]? = some o → i ∉ l → ∀ e ∈ o.after.toList, Region.binds .any e = true → e.on ∉ l
theorem Down.pre (hok : c.ok = true) {l : List Nat} (hD : Down c l) : ∀ (n i : Nat) (o : Oper), i ≤ n → c.ops[i]? = some o → (∀ e ∈ o.after.toList, Region.binds .any e = true → e.on ∉ l) → ∀ x ∈ c.pre i, x ∉ l := by
  intro n
  induction n with
  | zero =>
    intro i o hi ho he x hx
    have hlt : i < c.ops.length := (List.getElem?_eq_some_iff.1 ho).1
    have := pre_lt hok hlt hx; omega
  | succ n ih =>
    intro i o hi ho he x hx
    obtain ⟨e, h1, h2, h3⟩ := pre_edge hok ho hx
    have hel := edges_lt hok ho h1 h2
    have hlt : i < c.ops.length := (List.getElem?_eq_some_iff.1 ho).1
    have henot := he e h1 h2
    rcases h3 with rfl | h3
    · exact henot
    · have heo : c.ops[e.on]? = some c.ops[e.on] := List.getElem?_eq_getElem (by omega)
      exact ih e.on _ (by omega) heo (fun e' h4 h5 => hD e.on _ heo henot e' h4 h5) x h3
def Listed (c : Dc) (l : List Nat) (listed : Array Bool) : Prop := listed.size = c.ops.length ∧ ∀ i, i < c.ops.length → (listed[i]? = some true ↔ i ∉ l) ∧ (listed[i]? = some false ↔ i ∈ l)
theorem ready_spec {l : List Nat} {listed : Array Bool} (hL : Listed c l listed) {i : Nat} (h : i ∈ Region.ready .any c.ops.toArray listed) : i < c.ops.length ∧ i ∈ l ∧ ∀ o, c.ops[i]? = some o → ∀ e ∈ o.after.toList, Region.binds .any e = true → e.on < c.ops.length → e.on ∉ l := by
  unfold Region.ready at h
  rw [List.mem_filter] at h
  obtain ⟨h1, h2⟩ := h
  have hlt : i < c.ops.length := by simpa using List.mem_range.1 h1
  simp only [Bool.and_eq_true, Bool.not_eq_true'] at h2
  have hsz : i < listed.size := by rw [hL.1]; exact hlt
  have hfa : listed[i]? = some false := by
    have := h2.1
    rw [Array.getD_eq_getD_getElem?, Array.getElem?_eq_getElem hsz] at this
    rw [Array.getElem?_eq_getElem hsz]; simpa using this
  refine ⟨hlt, (hL.2 i hlt).2.1 hfa, fun o ho e he hb hon => ?_⟩
  have h3 := h2.2
  rw [List.getElem?_toArray, ho] at h3
  simp only [Option.map_some, Option.getD_some, Array.all_eq_true'] at h3
  have h4 := h3 e (by simpa using he)
  rw [hb] at h4
  simp only [Bool.not_true, Bool.false_or] at h4
  have hsz2 : e.on < listed.size := by rw [hL.1]; exact hon
  rw [Array.getD_eq_getD_getElem?, Array.getElem?_eq_getElem hsz2] at h4
  exact (hL.2 e.on hon).1.1 (by rw [Array.getElem?_eq_getElem hsz2]; simpa using h4)
theorem ready_head (hok : c.ok = true) {i : Nat} {l : List Nat} {listed : Array Bool} (hL : Listed c (i :: l) listed) (hp : (i :: l).Pairwise (· < ·)) (hlt : i < c.ops.length) : i ∈ Region.ready .any c.ops.toArray listed := by
  unfold Region.ready
  rw [List.mem_filter]
  refine ⟨by simpa using hlt, ?_⟩
  have hsz : i < listed.size := by rw [hL.1]; exact hlt
  have hfa := (hL.2 i hlt).2.2 List.mem_cons_self
  simp only [Bool.and_eq_true, Bool.not_eq_true']
  constructor
  · rw [Array.getD_eq_getD_getElem?, hfa]; rfl
  · rw [List.getElem?_toArray, List.getElem?_eq_getElem hlt]
    simp only [Option.map_some, Option.getD_some, Array.all_eq_true']
    intro e he
    cases hb : Region.binds .any e with
    | false => rfl
    | true =>
      have hel := edges_lt hok (List.getElem?_eq_getElem hlt) (by simpa using he) hb
      have hn : e.on ∉ i :: l := fun hm => by
        rcases List.mem_cons.1 hm with h | h
        · omega
        · have := (List.pairwise_cons.1 hp).1 _ h; omega
      have := (hL.2 e.on (by omega)).1.2 hn
      simp only [Bool.not_true, Bool.false_or]
      rw [Array.getD_eq_getD_getElem?, this]; rfl
theorem chain_any {E0 : Emb} {S : Nat → Prop} {n0 nt : Nat} {Q : Exit → Act → World → Prop} (hok : c.ok = true) (hnm : 1000 ≤ c.base) (hdst : ∀ o ∈ c.ops, ∀ x, o.dst = some x → x < nt) (T' : Nat → Option AV) (F' : Hp) (w0 : World)
    (hQ : ∀ E a w, RF E S n0 nt c [] T' F' a w → (∀ b, b < c.base → E b = E0 b) → Fr S w0 w → Q .normal a w) :
    ∀ (fuel : Nat) (l : List Nat) (listed : Array Bool) (T : Nat → Option AV) (F : Hp) (E : Emb) (a : Act) (w : World), l.length = fuel → l.Pairwise (· < ·) → (∀ x ∈ l, x < c.ops.length) → Listed c l listed → Down c l → DCh c l T F T' F' → RF E S n0 nt c l T F a w → (∀ b, b < c.base → E b = E0 b) → Fr S w0 w →
      wpAny c.P .any c.ops.toArray Q fuel listed a w := by
  intro fuel
  induction fuel with
  | zero =>
    intro l listed T F E a w hlen hp hlt hL hD hch hR hE hF
    obtain rfl := List.eq_nil_of_length_eq_zero hlen
    refine ⟨List.eq_nil_iff_forall_not_mem.2 fun i hi => ?_, ?_⟩
    · have := (ready_spec hL hi).2.1; cases this
    · cases hch; exact hQ E a w hR hE hF
  | succ fuel ih =>
    intro l listed T F E a w hlen hp hlt hL hD hch hR hE hF
    refine ⟨fun h0 => ?_, fun i hi => ?_⟩
    · cases l with
      | nil => simp at hlen
      | cons x l =>
        have := ready_head hok hL hp (hlt x List.mem_cons_self)
        rw [h0] at this; cases this
    · obtain ⟨hil, him, hed⟩ := ready_spec hL hi
      have hio : c.ops[i]? = some c.ops[i] := List.getElem?_eq_getElem hil
      have hed' : ∀ e ∈ c.ops[i].after.toList, Region.binds .any e = true → e.on ∉ l := fun e he hb => hed _ hio e he hb (by have := edges_lt hok hio he hb; omega)
      have hpre := hD.pre hok i i _ (Nat.le_refl _) hio hed'
      obtain ⟨o, ho, hcase⟩ := hch.take hok l T F T' F' hp hlt i him (fun x hx hm => hpre x hm hx)
      have eo : o = c.ops[i] := by rw [hio] at ho; injection ho with ho; exact ho.symm
      have hdo : ∀ x, o.dst = some x → x < nt := fun x hx => hdst o (by rw [eo]; exact List.getElem_mem hil) x hx
      have hnd : l.Nodup := hp.imp fun h => Nat.ne_of_lt h
      have hme : ∀ j, j ∈ l.erase i ↔ j ≠ i ∧ j ∈ l := fun j => hnd.mem_erase_iff
      have hlen' : (l.erase i).length = fuel := by rw [List.length_erase_of_mem him]; omega
      have hp' : (l.erase i).Pairwise (· < ·) := hp.sublist List.erase_sublist
      have hlt' : ∀ x ∈ l.erase i, x < c.ops.length := fun x hx => hlt x ((hme x).1 hx).2
      have hL' : Listed c (l.erase i) (listed.setIfInBounds i true) := by
        refine ⟨by simpa using hL.1, fun j hj => ?_⟩
        rw [Array.getElem?_setIfInBounds, hme]
        by_cases e : i = j
        · subst e; rw [if_pos rfl, if_pos (by rw [hL.1]; exact hj)]; simp
        · rw [if_neg e]
          have := hL.2 j hj
          have hne : j ≠ i := fun h => e h.symm
          simp only [ne_eq, hne, not_false_eq_true, true_and]
          exact this
      have hD' : Down c (l.erase i) := fun j oj hj hn e he hb hm => by
        have hm2 := ((hme _).1 hm).2
        by_cases ej : j = i
        · subst ej
          rw [hio] at hj; injection hj with hj; subst hj
          exact hed' e he hb hm2
        · exact hD j oj hj (fun h => hn ((hme j).2 ⟨ej, h⟩)) e he hb hm2
      have hops : c.ops.toArray[i]? = some o := by rw [List.getElem?_toArray]; exact ho
      unfold wpOp
      simp only [hops]
      rcases hcase with ⟨hg, v, U, hs, hU1, hU2, hrest⟩ | ⟨hg, hrest⟩
      · rw [if_pos (hg.ok hR)]
        refine .inl ?_
        refine hs E S n0 F a w hR.hS hR.h0 (by omega) hR.gl (fun hw => by unfold Dc.vw; rw [hw]) (vw_le i F) (fun x _ u hu => hR.aev x u hu) hR.rh (fun b h1 h2 => hR.fr b (by omega) (.inl (by rw [show (b - c.base) / 8 = i by omega]; exact him))) _ _ fun y w' E' hE' hv hH hF' => ?_
        have hle : ∀ b p, E b = some p → E' b = some p := fun b p hp => by
          rw [hE' b (.inr (fun hb => by rw [hR.fr b (by omega) (.inl (by rw [show (b - c.base) / 8 = i by omega]; exact him))] at hp; cases hp))]; exact hp
        refine ih (l.erase i) _ _ _ E' _ w' hlen' hp' hlt' hL' hD' hrest (RF.put ?_ hdo hv) (fun b hb => (hE' b (.inr (by omega))).trans (hE b hb)) (hF.trans hF')
        refine ⟨fun t u ht => (hR.rt t u ht).mono hle, hR.nt, hR.df, hH, fun b hb hor => ?_, fun g hg => (hR.gl g hg).imp fun s hs => hle _ _ hs, hR.hS, Nat.le_trans hR.h0 hF'.size⟩
        have hnr : ¬ (c.base + 8 * i ≤ b ∧ b < c.base + 8 * i + 8) := fun hr => by
          have e : (b - c.base) / 8 = i := by omega
          rw [e] at hor
          rcases hor with h | h
          · exact ((hme i).1 h).1 rfl
          · omega
        rw [hE' b (.inr hnr)]
        exact hR.fr b hb (hor.imp (fun h => ((hme _).1 h).2) id)
      · rw [if_neg (by rw [hg.ok hR]; simp)]
        refine ih (l.erase i) _ _ _ E _ w hlen' hp' hlt' hL' hD' hrest (RF.put ?_ hdo (.val _)) hE hF
        exact ⟨hR.rt, hR.nt, hR.df, hR.rh, fun b hb hor => hR.fr b hb (hor.imp (fun h => ((hme _).1 h).2) id), hR.gl, hR.hS, hR.h0⟩
end
/-- A region whose order is drawn. -/
theorem Ev.draw {P : Program} {nt id : Nat} {ops : List Oper} {st : St} {post : Exit → St → Prop} (cl : List (List Nat)) (ms ws : List Nat) (hm : P.follows .mixedOrders = true) (hok : Dc.ok ⟨P, ops, st.nx, cl, ms, ws⟩ = true) (hdst : (ops.all fun o => match o.dst with | some x => Nat.blt x nt | none => true) = true)
    (Tl : List (Nat × AV)) (Hl : List (Nat × Option ABlk)) (h : DCh ⟨P, ops, st.nx, cl, ms, ws⟩ (List.range ops.length) (lk st.T) (hget st.H) (lk Tl) (hget Hl)) (hp : post .normal ⟨Tl, Hl, st.nx + 8 * ops.length⟩) : Ev P nt (.region id ops.toArray true) st post := by
  intro E S n0 a w hn hR
  refine wp_region_any hm ?_
  have h0 : ∀ E' a' w', RF E' S n0 nt ⟨P, ops, st.nx, cl, ms, ws⟩ [] (lk Tl) (hget Hl) a' w' → (∀ b, b < st.nx → E' b = E b) → Fr S w w' → Done E S n0 nt (fun e st' => 1000 ≤ st'.nx ∧ post e st') w .normal a' w' := fun E' a' w' hR' hE hF =>
    ⟨⟨Tl, Hl, st.nx + 8 * ops.length⟩, E', ⟨by show 1000 ≤ st.nx + 8 * ops.length; omega, hp⟩, fun b hb => hE b (by omega), ⟨hR'.rt, hR'.nt, hR'.df, hR'.rh, fun b hb => hR'.fr b (by show st.nx ≤ b; have : st.nx + 8 * ops.length ≤ b := hb; omega) (.inr (by show ops.length ≤ (b - st.nx) / 8; have : st.nx + 8 * ops.length ≤ b := hb; omega)), hR'.gl, hR'.hS, hR'.h0⟩, hF⟩
  have hr := chain_any (c := ⟨P, ops, st.nx, cl, ms, ws⟩) (E0 := E) (nt := nt) hok hn (fun o ho x hx => by
    have := List.all_eq_true.1 hdst o ho
    rw [hx] at this; exact blt_true this) (lk Tl) (hget Hl) w h0 ops.length (List.range ops.length) (Array.replicate ops.length false) (lk st.T) (hget st.H) E a w.drew (by simp) List.pairwise_lt_range (fun x hx => by simpa using hx)
    ⟨by simp, fun i hi => by have hi' : i < ops.length := hi; rw [Array.getElem?_replicate, if_pos hi']; simp [hi']⟩ (fun i o ho hn => by exact absurd (List.mem_range.2 (List.getElem?_eq_some_iff.1 ho).1) hn) h
    ⟨hR.rt, hR.nt, hR.df, hR.rh.drew, fun b hb _ => hR.fr b hb, hR.gl, hR.hS, hR.h0⟩ (fun _ _ => rfl) (Fr.refl S w).drew
  simpa using hr
section
variable {c : Dc} {i : Nat} {l : List Nat} {T : List (Nat × AV)} {H : List (Nat × Option ABlk)} {T' : Nat → Option AV} {F' : Hp} {d : Nat} {op : Op} {ty : TypeId} {ps : String} {af : Array Edge} {gd : Option (Nat × Bool)} {v : AV} {U : List (Nat × Option ABlk)}
/-- An operation that makes no block. -/
theorem DCh.q (hi : c.ops[i]? = some ⟨some d, op, ty, ps, af, gd⟩) (h : OpSem c.P (lk T) (c.vw i (hget H)) ⟨some d, op, ty, ps, af, gd⟩ (c.base + 8 * i) (c.wr i) v []) (hg : GYes c (lk T) gd) (hr : DCh c l (lk ((d, v) :: T)) (hget H) T' F') : DCh c (i :: l) (lk T) (hget H) T' F' :=
  .op i l _ v [] _ _ _ _ hi hg h (fun _ => rfl) (fun b hb => absurd rfl hb) hr
/-- One that makes blocks, or writes. -/
theorem DCh.a (hi : c.ops[i]? = some ⟨some d, op, ty, ps, af, gd⟩) (h : OpSem c.P (lk T) (c.vw i (hget H)) ⟨some d, op, ty, ps, af, gd⟩ (c.base + 8 * i) (c.wr i) v U) (hg : GYes c (lk T) gd) (hm : c.mem i = true)
    (hU : ∀ b, lk U b ≠ none → (c.wr i = true ∧ b < c.base + 8 * i + 8) ∨ (c.base + 8 * i ≤ b ∧ b < c.base + 8 * i + 8)) (hr : DCh c l (lk ((d, v) :: T)) (hget (U ++ H)) T' F') : DCh c (i :: l) (lk T) (hget H) T' F' :=
  .op i l _ v U _ _ _ _ hi hg h (fun e => by rw [hm] at e; cases e) hU (by rw [upd_hget]; exact hr)
/-- One that writes, and yields nothing. -/
theorem DCh.w (hi : c.ops[i]? = some ⟨none, op, ty, ps, af, gd⟩) (h : OpSem c.P (lk T) (c.vw i (hget H)) ⟨none, op, ty, ps, af, gd⟩ (c.base + 8 * i) (c.wr i) v U) (hg : GYes c (lk T) gd) (hm : c.mem i = true)
    (hU : ∀ b, lk U b ≠ none → (c.wr i = true ∧ b < c.base + 8 * i + 8) ∨ (c.base + 8 * i ≤ b ∧ b < c.base + 8 * i + 8)) (hr : DCh c l (lk T) (hget (U ++ H)) T' F') : DCh c (i :: l) (lk T) (hget H) T' F' :=
  .op i l _ v U _ _ _ _ hi hg h (fun e => by rw [hm] at e; cases e) hU (by rw [upd_hget]; exact hr)
theorem DCh.n (hi : c.ops[i]? = some ⟨some d, op, ty, ps, af, gd⟩) (hg : GNo c (lk T) gd) (hr : DCh c l (lk ((d, .val undef) :: T)) (hget H) T' F') : DCh c (i :: l) (lk T) (hget H) T' F' :=
  .no i l _ _ _ _ _ hi hg hr
end
/-- The rest of a drawn region, and what is to hold behind it. -/
def DK (c : Dc) (l : List Nat) (T : List (Nat × AV)) (H : List (Nat × Option ABlk)) (K : St → Prop) : Prop := ∃ Tl Hl, DCh c l (lk T) (hget H) (lk Tl) (hget Hl) ∧ K ⟨Tl, Hl, c.base + 8 * c.ops.length⟩
theorem Ev.drawn {P : Program} {nt id : Nat} {ops : List Oper} {T : List (Nat × AV)} {H : List (Nat × Option ABlk)} {nx : Nat} {post : Exit → St → Prop} (cl : List (List Nat)) (ms ws : List Nat) (hm : P.follows .mixedOrders = true) (hok : Dc.ok ⟨P, ops, nx, cl, ms, ws⟩ = true) (hdst : (ops.all fun o => match o.dst with | some x => Nat.blt x nt | none => true) = true)
    (h : DK ⟨P, ops, nx, cl, ms, ws⟩ (List.range ops.length) T H (post .normal)) : Ev P nt (.region id ops.toArray true) ⟨T, H, nx⟩ post := by
  obtain ⟨Tl, Hl, h1, h2⟩ := h
  exact .draw cl ms ws hm hok hdst Tl Hl h1 h2
namespace DK
variable {c : Dc} {i : Nat} {l : List Nat} {T : List (Nat × AV)} {H : List (Nat × Option ABlk)} {K : St → Prop} {d : Nat} {op : Op} {ty : TypeId} {ps : String} {af : Array Edge} {gd : Option (Nat × Bool)} {v : AV} {U : List (Nat × Option ABlk)} {b : Bool}
theorem nil (h : K ⟨T, H, c.base + 8 * c.ops.length⟩) : DK c [] T H K := ⟨T, H, .nil _ _, h⟩
theorem q (hi : c.ops[i]? = some ⟨some d, op, ty, ps, af, gd⟩) (h : OpSem c.P (lk T) (c.vw i (hget H)) ⟨some d, op, ty, ps, af, gd⟩ (c.base + 8 * i) (c.wr i) v []) (hg : GYes c (lk T) gd) (hr : DK c l ((d, v) :: T) H K) : DK c (i :: l) T H K := by
  obtain ⟨Tl, Hl, h1, h2⟩ := hr; exact ⟨Tl, Hl, .q hi h hg h1, h2⟩
theorem a (hi : c.ops[i]? = some ⟨some d, op, ty, ps, af, gd⟩) (h : OpSem c.P (lk T) (c.vw i (hget H)) ⟨some d, op, ty, ps, af, gd⟩ (c.base + 8 * i) (c.wr i) v U) (hg : GYes c (lk T) gd) (hm : c.mem i = true)
    (hU : (U.all fun p => (c.wr i && Nat.blt p.1 (c.base + 8 * i + 8)) || (Nat.ble (c.base + 8 * i) p.1 && Nat.blt p.1 (c.base + 8 * i + 8))) = true) (hr : DK c l ((d, v) :: T) (U ++ H) K) : DK c (i :: l) T H K := by
  obtain ⟨Tl, Hl, h1, h2⟩ := hr
  refine ⟨Tl, Hl, .a hi h hg hm (fun b hb => ?_) h1, h2⟩
  cases hl : lk U b with
  | none => exact absurd hl hb
  | some r =>
    have := List.all_eq_true.1 hU _ (lk_mem hl)
    simp only [Bool.or_eq_true, Bool.and_eq_true] at this
    rcases this with h | h
    · exact .inl ⟨h.1, blt_true h.2⟩
    · exact .inr ⟨Nat.le_of_ble_eq_true h.1, blt_true h.2⟩
theorem w (hi : c.ops[i]? = some ⟨none, op, ty, ps, af, gd⟩) (h : OpSem c.P (lk T) (c.vw i (hget H)) ⟨none, op, ty, ps, af, gd⟩ (c.base + 8 * i) (c.wr i) v U) (hg : GYes c (lk T) gd) (hm : c.mem i = true)
    (hU : (U.all fun p => (c.wr i && Nat.blt p.1 (c.base + 8 * i + 8)) || (Nat.ble (c.base + 8 * i) p.1 && Nat.blt p.1 (c.base + 8 * i + 8))) = true) (hr : DK c l T (U ++ H) K) : DK c (i :: l) T H K := by
  obtain ⟨Tl, Hl, h1, h2⟩ := hr
  refine ⟨Tl, Hl, .w hi h hg hm (fun b hb => ?_) h1, h2⟩
  cases hl : lk U b with
  | none => exact absurd hl hb
  | some r =>
    have := List.all_eq_true.1 hU _ (lk_mem hl)
    simp only [Bool.or_eq_true, Bool.and_eq_true] at this
    rcases this with h | h
    · exact .inl ⟨h.1, blt_true h.2⟩
    · exact .inr ⟨Nat.le_of_ble_eq_true h.1, blt_true h.2⟩
theorem no (hi : c.ops[i]? = some ⟨some d, op, ty, ps, af, gd⟩) (hg : GNo c (lk T) gd) (hr : DK c l ((d, .val undef) :: T) H K) : DK c (i :: l) T H K := by
  obtain ⟨Tl, Hl, h1, h2⟩ := hr; exact ⟨Tl, Hl, .n hi hg h1, h2⟩
theorem split (h1 : b = true → DK c l ((d, .bool true) :: T) H K) (h2 : b = false → DK c l ((d, .bool false) :: T) H K) : DK c l ((d, .bool b) :: T) H K := by
  cases b with
  | true => exact h1 rfl
  | false => exact h2 rfl
theorem know {b' : Bool} (hb : b = b') (h : DK c l ((d, .bool b') :: T) H K) : DK c l ((d, .bool b) :: T) H K := hb ▸ h
theorem as (v' : AV) (hv : v = v') (h : DK c l ((d, v') :: T) H K) : DK c l ((d, v) :: T) H K := hv ▸ h
end DK
end Go.Proofs.YtaenhghihhhikaaDoor
