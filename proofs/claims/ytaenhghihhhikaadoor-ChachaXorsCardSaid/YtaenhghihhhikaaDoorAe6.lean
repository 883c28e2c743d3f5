/-
  append, copy, calls over abstract values. Nothing of the program is named here.
-/
import Derived.Test.YtaenhghihhhikaaDoorAe5
namespace Go.Proofs.YtaenhghihhhikaaDoor
open Go.RowKit

section
variable {P : Program} {T : Nat → Option AV} {H : Hp} {nm : Nat} {wr : Bool} {v u u1 u2 c c' : AV} {d : Option Tmp} {ty : TypeId} {ps : String} {af : Array Edge} {gd : Option (Nat × Bool)} {t t' t2 e : TypeId} {x y : Operand} {dd d2 : TypeDesc} {b o n z i m b2 o2 cp : Nat} {k k2 : ABlk}
/-- One of the call's own blocks goes over to a new name. -/
theorem RH.move {E : Emb} {S : Nat → Prop} {w : World} {kk : ABlk} (h : RH E S (upd [(b, some kk)] H) w) {l s : Nat} (he : E b = some (l, s)) (hn : E nm = none) : RH (E.put nm (l, s)) S (upd [(nm, some kk), (b, none)] H) w := by
  have hle := Emb.put_le (E := E) (b := nm) (p := (l, s)) hn
  have hbn : b ≠ nm := fun e => by subst e; rw [hn] at he; cases he
  have key : ∀ q kq, upd [(nm, some kk), (b, none)] H q = some kq → (q = nm ∧ kq = kk) ∨ (q ≠ nm ∧ q ≠ b ∧ H q = some kq) := fun q kq hq => by
    have e : upd [(nm, some kk), (b, none)] H = upd [(nm, some kk)] (upd [(b, none)] H) := by
      funext r; simp only [upd, lk]; cases Nat.beq nm r <;> rfl
    rw [e, upd_one] at hq
    split at hq
    · rename_i e; injection hq with hq; exact .inl ⟨e, hq.symm⟩
    · rename_i e1
      rw [upd_one] at hq
      split at hq
      · cases hq
      · rename_i e2; exact .inr ⟨e1, e2, hq⟩
  have old : ∀ q kq, q ≠ b → H q = some kq → upd [(b, some kk)] H q = some kq := fun q kq hq h => by rw [upd_one, if_neg hq]; exact h
  have self : upd [(b, some kk)] H b = some kk := by rw [upd_one, if_pos rfl]
  have ne : ∀ q kq, q ≠ b → H q = some kq → q ≠ nm := fun q kq hq hh e => by
    subst e; obtain ⟨l', s', h1, _⟩ := h.blk q kq (old q kq hq hh); rw [hn] at h1; cases h1
  refine ⟨fun q kq hq => ?_, fun q q' k1 k2 l1 s1 s2 h1 h2 h3 h4 h5 => ?_, fun q kq l1 s1 h1 h2 h3 => ?_⟩
  · rcases key q kq hq with ⟨rfl, rfl⟩ | ⟨e1, e2, e3⟩
    · obtain ⟨l', s', g1, g2⟩ := h.blk b kq self
      rw [he] at g1; injection g1 with g1; injection g1 with g1 g3; subst g1; subst g3
      exact ⟨l, s, Emb.put_same _ _ _, g2.mono hle rfl⟩
    · obtain ⟨l', s', g1, g2⟩ := h.blk q kq (old q kq e2 e3)
      exact ⟨l', s', hle _ _ g1, g2.mono hle rfl⟩
  · rcases key q k1 h1 with ⟨rfl, rfl⟩ | ⟨e1, e2, e3⟩ <;> rcases key q' k2 h2 with ⟨rfl, rfl⟩ | ⟨f1, f2, f3⟩
    · rfl
    · rw [Emb.put_same] at h4; rw [Emb.put_other _ _ f1] at h5
      injection h4 with h4; injection h4 with h4 _; subst h4
      exact absurd (h.inj b q' k1 k2 l s s2 self (old _ _ f2 f3) h3 he h5).symm f2
    · rw [Emb.put_same] at h5; rw [Emb.put_other _ _ e1] at h4
      injection h5 with h5; injection h5 with h5 _; subst h5
      exact absurd (h.inj q b k1 k2 l s1 s (old _ _ e2 e3) self h3 h4 he) e2
    · rw [Emb.put_other _ _ e1] at h4; rw [Emb.put_other _ _ f1] at h5
      exact h.inj q q' k1 k2 l1 s1 s2 (old _ _ e2 e3) (old _ _ f2 f3) h3 h4 h5
  · rcases key q kq h1 with ⟨rfl, rfl⟩ | ⟨e1, e2, e3⟩
    · rw [Emb.put_same] at h3; injection h3 with h3; injection h3 with h3 _; subst h3
      exact h.own b kq l s self h2 he
    · rw [Emb.put_other _ _ e1] at h3
      exact h.own q kq l1 s1 (old _ _ e2 e3) h2 h3
/-- What append may take from: a string or a slice. -/
def notInt (d : TypeDesc) : Prop := d = .string ∨ ∃ e, d = .slice e
/-- What append and copy take from: m elements of z cells each, which read as cs. -/
def Srcs (P : Program) (T : Nat → Option AV) (H : Hp) (y : Operand) (z m : Nat) (cs : List AV) : Prop :=
  cs.length = m * z ∧ ∀ (E : Emb) (S : Nat → Prop) (a : Act) (w : World), (∀ u, aev T y = some u → Rel E u (a.eval y)) → RH E S H w →
    ∃ news : List Value, news.length = m * z ∧ (∀ (i : Nat) q, cs[i]? = some q → q.one = true ∧ ∃ yv, news[i]? = some yv ∧ Rel E q yv) ∧
      ∀ w' : World, w'.heap = w.heap → (Builtin.lenOf (a.eval y)).run P w' = .ok m w' ∧ ∀ r, r ≤ m → (Builtin.firstCells z r (a.eval y)).run P w' = .ok (news.take (r * z)).toArray w'
theorem srcs_sl (hy : aev T y = some (.sl b o m z)) (hk : H b = some k) (hlen : o + m * z ≤ k.c.len) : Srcs P T H y z m ((k.c.list.drop o).take (m * z)) := by
  have hl := len_list k.c
  refine ⟨by simp; omega, fun E S a w hop hR => ?_⟩
  obtain ⟨l', s', h3, arr, fz, g1, g2, g3, g4, g5⟩ := hR.blk b k hk
  rcases (hop _ hy).sl_inv with ⟨lc, s, c, q1, q2, q3, q4, q5⟩ | ⟨ad, h0, q5⟩
  · rw [q1] at h3; injection h3 with h3; injection h3 with e1 e2; subst e1; subst e2
    refine ⟨(arr.toList.drop o).take (m * z), by simp; omega, fun i q hq => ?_, fun w' hw => ⟨by rw [q5]; rfl, fun r hr => ?_⟩⟩
    · rw [List.getElem?_take] at hq ⊢
      split at hq
      · rename_i hi
        rw [if_pos hi]
        rw [List.getElem?_drop] at hq ⊢
        obtain ⟨p1, yv, p2, p3⟩ := g5 (o + i) q hq
        exact ⟨p1, yv, by simpa using p2, p3⟩
      · cases hq
    · rw [q5]
      have hrz : r * z ≤ m * z := Nat.mul_le_mul_right _ hr
      have hlen2 : (((arr.toList.drop o).take (m * z)).take (r * z)).length = r * z := by simp; omega
      exact run_firstCells_some (P := P) w' z r ⟨lc, o, none⟩ m c _ hlen2 (fun j v hj => by
        rw [add_at, World.cell?_of_block (w := w) (a := ⟨lc, o + j, none⟩) (by rw [hw]), cell_of_row w lc (o + j) arr k.elem fz g1]
        rw [List.getElem?_take] at hj
        split at hj
        · rw [List.getElem?_take] at hj
          split at hj
          · rw [List.getElem?_drop] at hj; simpa using hj
          · cases hj
        · cases hj)
  · subst h0
    refine ⟨[], by simp, fun i q hq => by simp at hq, fun w' hw => ⟨by rw [q5]; rfl, fun r hr => ?_⟩⟩
    have hr0 : r = 0 := by omega
    subst hr0
    rw [q5]
    have := run_firstCells_some (P := P) w' z 0 ad 0 0 [] (by simp) (fun j v hj => by cases hj)
    simpa using this
theorem srcs_str {s : List UInt8} (hy : aev T y = some (.str s)) : Srcs P T H y 1 s.length (s.map .u8) := by
  refine ⟨by simp, fun E S a w hop hR => ?_⟩
  have e1 := (hop _ hy).str_inv
  refine ⟨s.map fun q => .int .u8 (q.toNat : Int), by simp, fun i q hq => ?_, fun w' hw => ⟨by rw [e1]; simp [Builtin.lenOf, ByteArray.size], fun r hr => ?_⟩⟩
  · obtain ⟨p, hp, rfl⟩ := get_map_some hq
    exact ⟨rfl, .int .u8 (p.toNat : Int), by simp [hp], .u8 _⟩
  · rw [e1]
    simp only [Builtin.firstCells, Sem.run_pure, Nat.mul_one]
    congr 1
    apply Array.ext'
    rw [ByteArray.data_extract]
    simp [List.extract_eq_take_drop, List.map_take]
theorem srcs_nil (hy : aev T y = some .nilsl) : Srcs P T H y z 0 [] := by
  refine ⟨by simp, fun E S a w hop hR => ?_⟩
  have e1 := (hop _ hy).nilsl_inv
  refine ⟨[], by simp, fun i q hq => by simp at hq, fun w' hw => ⟨by rw [e1]; rfl, fun r hr => ?_⟩⟩
  have hr0 : r = 0 := by omega
  subst hr0
  rw [e1]; simp [Builtin.firstCells]
theorem run_app_room (w w' : World) {i : TypeInfo} (ht : P.underlying t = some (.slice e)) (ht2 : P.underlying t2 = some d2) (hd2 : notInt d2) (hi : P.info? e = some i)
    (ad : Addr) (n cp m : Nat) (yv : Value) (news : List Value) (hlen : (Builtin.lenOf yv).run P w = .ok m w) (hf : (Builtin.firstCells i.size m yv).run P w = .ok news.toArray w) (hroom : n + m ≤ cp)
    (hst : (storeCells (ad.add (n * i.size)) news).run P w = .ok () w') :
    (Builtin.append_ #[t, t2] ty #[.slice (some ad) n cp, yv]).run P w = .ok (.slice (some ad) (n + m) cp) w' := by
  rcases hd2 with rfl | ⟨e2, rfl⟩ <;> simp [Builtin.append_, run_underlying ht, run_underlying ht2, sizeOf, typeInfo, hi, hlen, hroom, hf, hst]
theorem run_app_grow (w : World) {i : TypeInfo} {zv : Value} (ht : P.underlying t = some (.slice e)) (ht2 : P.underlying t2 = some d2) (hd2 : notInt d2) (hi : P.info? e = some i) (hz : i.zero = some zv)
    (sv : Value) (base : Option Addr) (hsv : sv = .slice base n cp) (m : Nat) (yv : Value) (olds news : List Value)
    (hlen : (Builtin.lenOf yv).run P w = .ok m w) (hf : (Builtin.firstCells i.size m yv).run P w.drew = .ok news.toArray w.drew) (hfo : (Builtin.firstCells i.size n sv).run P w.drew = .ok olds.toArray w.drew) (hroom : cp < n + m)
    (h63 : n + m ≤ 9223372036854775807) (hfit : (n + m) * i.bytes ≤ 140737488355328) :
    (Builtin.append_ #[t, t2] ty #[sv, yv]).run P w = .ok (.slice (some ⟨w.heap.size, 0, none⟩) (n + m) (grownCap w (n + m) cp e))
      (w.drew.alloc (.cells (olds.toArray ++ news.toArray ++ Builtin.zeroCells zv.cells (grownCap w (n + m) cp e - (n + m))) e)) := by
  subst hsv
  have hn : ¬ (n + m ≤ cp) := by omega
  have h63' : ¬ (9223372036854775807 < ((n : Int) + (m : Int))) := by omega
  have h48 := growslice_fits hroom hfit
  have h48' : ¬ (281474976710656 < Builtin.nextslicecap (n + m) cp * i.bytes) := by omega
  rcases hd2 with rfl | ⟨e2, rfl⟩ <;> simp [Builtin.append_, run_underlying ht, run_underlying ht2, sizeOf, typeInfo, zeroValue, hi, hz, hlen, hn, h63', h48', Question.forced, hf, hfo, newRow, grownCap] <;> exact congrArg (fun q => w.drew.alloc (Obj.cells q e)) (Array.ext' (by simp))
/-- append to one of the call's own slices, which is known whole. -/
theorem op_append {ie : TypeInfo} {zv : Value} {cs : List AV} (ht : P.underlying t = some (.slice e)) (ht2 : P.underlying t2 = some d2) (hd2 : notInt d2) (hi : P.info? e = some ie) (hz : ie.zero = some zv) (hzs : zv.cells.size = ie.size) (hsz : ie.size = z) (hby : ie.bytes ≤ 4096)
    (hx : aev T x = some (.sl b 0 n z)) (hk : H b = some k) (hown : k.own = true) (hke : k.elem = e) (hn : k.c.len = n * z) (hs : Srcs P T H y z m cs) (hc : c'.list = k.c.list ++ cs) (hlim : n + m ≤ 10000000000) :
    OpSem P T H ⟨d, .call { callee := .builtin .append, args := #[x, y], argTypes := #[t, t2] }, ty, ps, af, gd⟩ nm true (.sl nm 0 (n + m) z) [(nm, some ⟨c', e, true⟩), (b, none)] := by
  intro E S n0 H2 a w hS hn0 _ _ hwr hle hop hR hf K Q hK
  have e0 := hwr rfl; subst e0
  subst hsz
  have hfit : (n + m) * ie.bytes ≤ 140737488355328 := by
    have := Nat.mul_le_mul hlim hby; omega
  have hrx := hop x (by simp [Op.operands, Call.operands]) _ hx
  obtain ⟨hcl, hsr⟩ := hs
  obtain ⟨news, s1, s2, s3⟩ := hsr E S a w (fun u hu => hop y (by simp [Op.operands, Call.operands]) u hu) hR
  obtain ⟨l', s', h3, arr, fz, g1, g2, g3, g4, g5⟩ := hR.blk b k hk
  have hll := len_list k.c
  have hone : ∀ q ∈ news, q.oneCell' = true := fun q hq => by
    obtain ⟨i, hi, rfl⟩ := List.mem_iff_getElem.1 hq
    have hi' : i < cs.length := by omega
    obtain ⟨p1, yv, p2, p3⟩ := s2 i cs[i] (List.getElem?_eq_getElem hi')
    rw [List.getElem?_eq_getElem hi] at p2; injection p2 with p2
    rw [p2]; exact p3.one p1
  have hEn := hf nm (Nat.le_refl _) (by omega)
  have hbn : b ≠ nm := fun e => by subst e; rw [hEn] at h3; cases h3
  have hc'len : c'.list.length = (n + m) * ie.size := by rw [hc, List.length_append, hll, hn, hcl, Nat.add_mul]
  have hput : ∀ q p, (∀ r, (lk [(nm, some (⟨c', e, true⟩ : ABlk)), (b, none)] r = none ∨ ¬ (nm ≤ r ∧ r < nm + 8)) → (E.put nm (q, p)) r = E r) := fun q p r hr => by
    refine Emb.put_other _ _ (fun e => ?_)
    subst e
    rcases hr with hr | hr
    · simp [lk] at hr
    · exact hr ⟨Nat.le_refl _, by omega⟩
  have hrunop : ∀ vv ww, (Builtin.append_ #[t, t2] ty #[a.eval x, a.eval y]).run P w = .ok vv ww → (execOp a.eval ⟨d, .call { callee := .builtin .append, args := #[x, y], argTypes := #[t, t2] }, ty, ps, af, gd⟩).run P w = .ok (.value vv) ww := fun vv ww hh => by
    simp [execOp, resolve, invoke, builtin, hh]
  have hmz : news.take (m * ie.size) = news := List.take_of_length_le (by omega)
  -- the state that is left in place
  have inplace : ∀ (ad : Addr) (cp : Nat), a.eval x = .slice (some ad) n cp → n + m ≤ cp → cp ≤ maxLen → (ad = ⟨l', 0, none⟩ ∧ cp * ie.size ≤ s' ∨ cp = 0) → ∃ y' w' E', (Builtin.append_ #[t, t2] ty #[a.eval x, a.eval y]).run P w = .ok y' w' ∧
      (∀ r, (lk [(nm, some (⟨c', e, true⟩ : ABlk)), (b, none)] r = none ∨ ¬ (nm ≤ r ∧ r < nm + 8)) → E' r = E r) ∧ Rel E' (.sl nm 0 (n + m) ie.size) y' ∧ RH E' S (upd [(nm, some ⟨c', e, true⟩), (b, none)] H2) w' ∧ Fr S w w' := by
    intro ad cp hax hroom hcpm had
    have hS' : S l' := hR.own b k l' s' hk hown h3
    rcases had with ⟨rfl, hfits⟩ | rfl
    · have hle2 : (n + m) * ie.size ≤ cp * ie.size := Nat.mul_le_mul_right _ hroom
      rw [Nat.add_mul] at hle2
      obtain ⟨arr', hr, hsz', hv⟩ := run_storeCells_gen P l' (n * ie.size) k.elem fz news 0 arr w g1 (by rw [g2]; exact g3 hown) (by omega) hone
      have hst : (storeCells ((⟨l', 0, none⟩ : Addr).add (n * ie.size)) news).run P w = .ok () (w.setRow l' arr') := by rw [add_at, Nat.zero_add]; exact hr
      have h4 := s3 w rfl
      have hff := h4.2 m (Nat.le_refl _)
      rw [hmz] at hff
      have hrun := run_app_room (P := P) (ty := ty) w _ ht ht2 hd2 hi ⟨l', 0, none⟩ n cp m (a.eval y) news h4.1 hff hroom hst
      refine ⟨_, _, E.put nm (l', s'), by rw [hax]; exact hrun, hput _ _, .sl _ _ _ _ l' s' cp (Emb.put_same _ _ _) hroom hcpm (by omega), ?_, Fr.setRow w l' arr' hS'⟩
      have hw := hR.write hk hown h3 arr arr' fz g1 hsz' c' (by rw [hc'len, Nat.add_mul]; omega) (fun i q hq => by
        rw [hc] at hq
        rw [hv]
        by_cases hi : i < k.c.list.length
        · rw [List.getElem?_append_left hi] at hq
          rw [if_neg (by omega)]
          exact g5 i q hq
        · rw [List.getElem?_append_right (by omega)] at hq
          have hi2 : i - k.c.list.length < cs.length := (List.getElem?_eq_some_iff.1 hq).1
          rw [if_pos (by omega)]
          have := s2 _ q hq
          rwa [show i - k.c.list.length = i - (n * ie.size + 0) by omega] at this)
      have := RH.move (nm := nm) (kk := { k with c := c' }) hw h3 hEn
      rwa [show ({ k with c := c' } : ABlk) = ⟨c', e, true⟩ by rw [← hke, ← hown]] at this
    · have hnz : n = 0 := by omega
      have hmz0 : m = 0 := by omega
      subst hnz; subst hmz0
      have hn0' : news = [] := List.eq_nil_of_length_eq_zero (by simpa using s1)
      subst hn0'
      have h4 := s3 w rfl
      have hff := h4.2 0 (Nat.le_refl _)
      simp only [Nat.zero_mul, List.take_zero] at hff
      have hrun := run_app_room (P := P) (ty := ty) w w ht ht2 hd2 hi ad 0 0 0 (a.eval y) [] h4.1 hff (Nat.le_refl _) (by simp [storeCells])
      refine ⟨_, _, E.put nm (l', s'), by rw [hax]; exact hrun, hput _ _, .sl0 _ _ _ _, ?_, Fr.refl _ _⟩
      have hcn : c'.list = [] := List.eq_nil_of_length_eq_zero (by rw [hc'len]; simp)
      have hw : RH E S (upd [(b, some { k with c := c' })] H2) w := by
        have hself : w.setRow l' arr = w := by
          obtain ⟨arr2, r1, r2, r3⟩ := run_storeCells_gen P l' 0 k.elem fz [] 0 arr w g1 (by rw [g2]; exact g3 hown) (by simp) (by simp)
          have : arr2 = arr := Array.ext_getElem? fun j => by rw [r3 j, if_neg (by simp)]
          subst this
          simp [storeCells] at r1
          exact r1.symm
        have := hR.write hk hown h3 arr arr fz g1 rfl c' (by rw [hcn]; simp) (fun i q hq => by rw [hcn] at hq; simp at hq)
        rwa [hself] at this
      have := RH.move (nm := nm) (kk := { k with c := c' }) hw h3 hEn
      rwa [show ({ k with c := c' } : ABlk) = ⟨c', e, true⟩ by rw [← hke, ← hown]] at this
  have grow : ∀ (ad : Addr) (cp : Nat), a.eval x = .slice (some ad) n cp → cp < n + m → (∀ (j : Nat) v, (arr.toList.take (n * ie.size))[j]? = some v → w.cell? (ad.add j) = some v) → ∃ y' w' E', (Builtin.append_ #[t, t2] ty #[a.eval x, a.eval y]).run P w = .ok y' w' ∧
      (∀ r, (lk [(nm, some (⟨c', e, true⟩ : ABlk)), (b, none)] r = none ∨ ¬ (nm ≤ r ∧ r < nm + 8)) → E' r = E r) ∧ Rel E' (.sl nm 0 (n + m) ie.size) y' ∧ RH E' S (upd [(nm, some ⟨c', e, true⟩), (b, none)] H2) w' ∧ Fr S w w' := by
    intro ad cp hax hroom hcell
    have h4 := s3 w rfl
    have h5 := (s3 w.drew rfl).2 m (Nat.le_refl _)
    rw [hmz] at h5
    have hol : (arr.toList.take (n * ie.size)).length = n * ie.size := by simp; omega
    have hfo := run_firstCells_some (P := P) w.drew ie.size n ad n cp (arr.toList.take (n * ie.size)) hol hcell
    rw [← hax] at hfo
    have hrun := run_app_grow (P := P) (ty := ty) w ht ht2 hd2 hi hz (a.eval x) (some ad) hax m (a.eval y) (arr.toList.take (n * ie.size)) news h4.1 h5 hfo hroom (by omega) hfit
    have hcap := grownCap_ge w (n + m) cp e
    have hcap2 := grownCap_le_maxLen w (n + m) cp e (by unfold maxLen; omega)
    have hR' : RH E S (upd [(b, none)] H2) w.drew := (hR.less fun q kq hq => by
      rw [upd_one] at hq
      split at hq
      · cases hq
      · exact hq).drew
    have hsize : ((arr.toList.take (n * ie.size)).toArray ++ news.toArray ++ Builtin.zeroCells zv.cells (grownCap w (n + m) cp e - (n + m))).size = grownCap w (n + m) cp e * ie.size := by
      simp only [Array.size_append, List.size_toArray, hol, s1, size_zeroCells, hzs, ← Nat.add_mul]
      congr 1; omega
    have hal := hR'.alloc (b := nm) (hS _ hn0) hEn ⟨c', e, true⟩ ((arr.toList.take (n * ie.size)).toArray ++ news.toArray ++ Builtin.zeroCells zv.cells (grownCap w (n + m) cp e - (n + m))) (0, 0) (fun i _ h => by have := h.2; simp at this)
      (by rw [hc'len, hsize]; exact Nat.mul_le_mul_right _ hcap) (fun i q hq => by
        have hq' : (k.c.list ++ cs)[i]? = some q := by rw [← hc]; exact hq
        by_cases hi : i < k.c.list.length
        · rw [List.getElem?_append_left hi] at hq'
          obtain ⟨p1, yv, p2, p3⟩ := g5 i q hq'
          refine ⟨p1, yv, ?_, p3⟩
          rw [Array.append_assoc, Array.getElem?_append_left (by simp; omega)]
          simp only [List.getElem?_toArray, List.getElem?_take]
          rw [if_pos (by omega)]; simpa using p2
        · rw [List.getElem?_append_right (by omega)] at hq'
          obtain ⟨p1, yv, p2, p3⟩ := s2 _ q hq'
          have hi2 : i - k.c.list.length < cs.length := (List.getElem?_eq_some_iff.1 hq').1
          refine ⟨p1, yv, ?_, p3⟩
          rw [Array.append_assoc, Array.getElem?_append_right (by simp; omega), Array.getElem?_append_left (by simp; omega)]
          simp only [List.size_toArray, hol, List.getElem?_toArray]
          rwa [show i - n * ie.size = i - k.c.list.length by omega])
    have e2 : upd [(nm, some (⟨c', e, true⟩ : ABlk)), (b, none)] H2 = upd [(nm, some ⟨c', e, true⟩)] (upd [(b, none)] H2) := by
      funext r; simp only [upd, lk]; cases Nat.beq nm r <;> rfl
    rw [← e2] at hal
    refine ⟨_, _, _, hrun, ?_, ?_, hal, (Fr.refl S w).drew.trans (Fr.alloc S w.drew _)⟩
    · exact hput _ _
    · exact .sl _ _ _ _ _ _ _ (Emb.put_same _ _ _) hcap hcap2 (by rw [hsize]; omega)
  have both : ∃ y' w' E', (Builtin.append_ #[t, t2] ty #[a.eval x, a.eval y]).run P w = .ok y' w' ∧
      (∀ r, (lk [(nm, some (⟨c', e, true⟩ : ABlk)), (b, none)] r = none ∨ ¬ (nm ≤ r ∧ r < nm + 8)) → E' r = E r) ∧ Rel E' (.sl nm 0 (n + m) ie.size) y' ∧ RH E' S (upd [(nm, some ⟨c', e, true⟩), (b, none)] H2) w' ∧ Fr S w w' := by
    rcases hrx.sl_inv with ⟨lc, s, cp, q1, q2, q3, q4, q5⟩ | ⟨ad, hz0, q5⟩
    · rw [q1] at h3; injection h3 with h3; injection h3 with e1 e2; subst e1; subst e2
      by_cases hroom : n + m ≤ cp
      · exact inplace _ cp q5 hroom q3 (.inl ⟨rfl, by omega⟩)
      · refine grow _ cp q5 (by omega) fun j v hj => ?_
        rw [add_at, Nat.zero_add, cell_of_row w lc j arr k.elem fz g1]
        rw [List.getElem?_take] at hj
        split at hj
        · simpa using hj
        · cases hj
    · subst hz0
      by_cases hroom : 0 + m ≤ 0
      · exact inplace ad 0 q5 hroom (Nat.zero_le _) (.inr rfl)
      · exact grow ad 0 q5 (by omega) fun j v hj => by simp at hj
  obtain ⟨y', w', E', r1, r2, r3, r4, r5⟩ := both
  unfold Oper.wp
  rw [hrunop _ _ r1]
  exact hK y' w' E' r2 r3 r4 r5
/-- append to nil, of one element or more. -/
theorem op_append_nil {ie : TypeInfo} {zv : Value} {cs : List AV} (ht : P.underlying t = some (.slice e)) (ht2 : P.underlying t2 = some d2) (hd2 : notInt d2) (hi : P.info? e = some ie) (hz : ie.zero = some zv) (hzs : zv.cells.size = ie.size) (hsz : ie.size = z) (hby : ie.bytes ≤ 4096)
    (hx : aev T x = some .nilsl) (hs : Srcs P T H y z m cs) (hc : c'.list = cs) (h0 : 0 < m) (hlim : m ≤ 10000000000) :
    OpSem P T H ⟨d, .call { callee := .builtin .append, args := #[x, y], argTypes := #[t, t2] }, ty, ps, af, gd⟩ nm wr (.sl nm 0 m z) [(nm, some ⟨c', e, true⟩)] :=
  .allocs fun E S a w hop hR => by
    subst hsz
    have e1 := (hop x (by simp [Op.operands, Call.operands]) _ hx).nilsl_inv
    obtain ⟨hcl, hsr⟩ := hs
    obtain ⟨news, s1, s2, s3⟩ := hsr E S a w (fun u hu => hop y (by simp [Op.operands, Call.operands]) u hu) hR
    have hmz : news.take (m * ie.size) = news := List.take_of_length_le (by omega)
    have hfit : (0 + m) * ie.bytes ≤ 140737488355328 := by
      have := Nat.mul_le_mul hlim hby; rw [Nat.zero_add]; omega
    have h4 := s3 w rfl
    have h5 := (s3 w.drew rfl).2 m (Nat.le_refl _)
    rw [hmz] at h5
    have hrun := run_app_grow (P := P) (ty := ty) (n := 0) (cp := 0) w ht ht2 hd2 hi hz (a.eval x) none e1 m (a.eval y) [] news h4.1 h5 (by rw [e1]; simp [Builtin.firstCells]) (by omega) (by omega) hfit
    rw [Nat.zero_add] at hrun
    have hcap := grownCap_ge w m 0 e
    have hcap2 := grownCap_le_maxLen w m 0 e (by unfold maxLen; omega)
    have hsize : (([] : List Value).toArray ++ news.toArray ++ Builtin.zeroCells zv.cells (grownCap w m 0 e - m)).size = grownCap w m 0 e * ie.size := by
      simp only [Array.size_append, List.size_toArray, List.length_nil, s1, size_zeroCells, hzs, Nat.zero_add, ← Nat.add_mul]
      congr 1; omega
    refine ⟨_, _, (0, 0), w.drew, by simp [execOp, resolve, invoke, builtin, hrun]; rfl, rfl, rfl, rfl, rfl, .sl _ _ _ _ _ _ _ (Emb.put_same _ _ _) hcap hcap2 ?_, fun i _ h => by have := h.2; simp at this, ?_, fun i q hq => ?_⟩
    · have := hsize; simp at this ⊢; omega
    · rw [hc, hcl]
      have := hsize; simp at this ⊢; rw [this]; exact Nat.mul_le_mul_right _ hcap
    · rw [hc] at hq
      obtain ⟨p1, yv, p2, p3⟩ := s2 i q hq
      have hi : i < news.length := (List.getElem?_eq_some_iff.1 p2).1
      refine ⟨p1, yv, ?_, p3⟩
      rw [Array.getElem?_append_left (by simpa using hi)]
      simpa using p2
end
end Go.Proofs.YtaenhghihhhikaaDoor
