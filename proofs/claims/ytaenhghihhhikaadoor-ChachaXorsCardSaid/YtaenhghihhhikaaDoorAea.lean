/-
  Rows built by a literal, copy, zero values; from a walk over worlds to one over abstract values, and back. Nothing of the program is named here.
-/
import Derived.Test.YtaenhghihhhikaaDoorAe9
namespace Go.Proofs.YtaenhghihhhikaaDoor
open Go.RowKit
section
variable {P : Program} {T : Nat → Option AV} {H : Hp} {nm : Nat} {wr : Bool} {v u u1 u2 c c' : AV} {d : Option Tmp} {ty : TypeId} {ps : String} {af : Array Edge} {gd : Option (Nat × Bool)} {t t' t2 e : TypeId} {x y : Operand} {dd d2 : TypeDesc} {b o n z i m b2 o2 : Nat} {k k2 : ABlk}
theorem parts_list {a : AV} (h : a.parts.isSome = true) : a.parts = some a.list := by
  cases hq : a.parts with
  | none => rw [hq] at h; cases h
  | some cs => simp [AV.list, hq]
theorem put_parts {a a' w : AV} {i : Nat} (h : a.put i w = some a') : a'.parts.isSome = true := by
  unfold AV.put at h
  split at h
  · split at h
    · injection h with h; subst h; rfl
    · cases h
  all_goals first
    | (injection h with h; subst h; rfl)
    | cases h
def putAll : AV → List (Nat × AV) → Option AV
  | a, [] => some a
  | a, (i, w) :: r => match a.put i w with
    | some a' => putAll a' r
    | none => none
/-- The parts of a literal, as they are known. -/
def PartsEv (T : Nat → Option AV) (n : Nat) : List (Nat × Operand) → List (Nat × AV) → Prop
  | [], [] => True
  | (i, x) :: r, (j, w) :: us => i = j ∧ aev T x = some w ∧ Nat.blt i n = true ∧ PartsEv T n r us
  | _, _ => False
theorem fill_row {E : Emb} {a : Act} {n : Nat} : ∀ (l : List (Nat × Operand)) (us : List (Nat × AV)) (r r' : AV) (cells : Array Value), PartsEv T n l us → (∀ p ∈ l, ∀ w, aev T p.2 = some w → Rel E w (a.eval p.2)) → r.parts.isSome = true → putAll r us = some r' → Rel E r (.agg cells) → n ≤ cells.size →
    ∃ cells', Instr.fill (fun i => some (i * 1, 1)) cells (l.map fun p => (p.1, a.eval p.2)) = some cells' ∧ Rel E r' (.agg cells')
  | [], [], r, r', cells, _, _, _, hp, hr, _ => by simp only [putAll, Option.some.injEq] at hp; subst hp; exact ⟨cells, rfl, hr⟩
  | [], _ :: _, _, _, _, h, _, _, _, _, _ => h.elim
  | _ :: _, [], _, _, _, h, _, _, _, _, _ => h.elim
  | (i, x) :: l, (j, w) :: us, r, r', cells, h, hop, hs, hp, hr, hn => by
    obtain ⟨rfl, h1, h2, h3⟩ := h
    have hlt := blt_true h2
    simp only [putAll] at hp
    cases hq : r.put i w with
    | none => rw [hq] at hp; cases hp
    | some r1 =>
      rw [hq] at hp
      obtain ⟨p1, p2, _⟩ := put_list hq
      have hrel := hop (i, x) List.mem_cons_self w h1
      have hone := hrel.one p2
      have hcells : (a.eval x).cells = #[a.eval x] := by
        cases hq : a.eval x <;> first | rfl | (rw [hq] at hone; cases hone)
      obtain ⟨ds, q1, q2, q3, q4⟩ := hr.agg_inv (parts_list hs)
      injection q1 with q1; subst q1
      have hr1 : Rel E r1 (.agg (cells.setIfInBounds i (a.eval x))) := by
        refine .agg _ r1.list _ (parts_list (put_parts hq)) (by rw [p1]; simp [q2]) (fun y hy => ?_) (fun j y z hy hz => ?_)
        · rw [p1] at hy
          rcases List.mem_or_eq_of_mem_set hy with hy | rfl
          · exact q3 y hy
          · exact p2
        · rw [p1, List.getElem?_set] at hy
          rw [Array.getElem?_setIfInBounds] at hz
          by_cases e : i = j
          · subst e
            rw [if_pos rfl] at hy hz
            split at hy
            · split at hz
              · injection hy with hy; injection hz with hz; subst hy; subst hz; exact hrel
              · cases hz
            · cases hy
          · rw [if_neg e] at hy hz
            exact q4 j y z hy hz
      obtain ⟨cells', g1, g2⟩ := fill_row l us r1 r' _ h3 (fun p hp => hop p (List.mem_cons_of_mem _ hp)) (put_parts hq) hp hr1 (by simpa using hn)
      refine ⟨cells', ?_, g2⟩
      simp only [List.map_cons, Instr.fill, hcells]
      rw [if_neg (by simp; omega)]
      simpa using g1
/-- An array's literal. -/
theorem op_buildArr {us : List (Nat × AV)} {parts : Array (Nat × Operand)} {zc : Array Value} {r0 r : AV} (hu : P.underlying t = some (.array n e)) (hsz : (P.info? e).map (·.size) = some 1) (hz : (P.info? t).map (·.zero) = some (some (.agg zc))) (hr0 : Rel (fun _ => none) r0 (.agg zc)) (hs0 : r0.parts.isSome = true) (hn : n ≤ zc.size)
    (hp : PartsEv T n parts.toList us) (hr : putAll r0 us = some r) : OpSem P T H ⟨d, .build t parts, ty, ps, af, gd⟩ nm wr r [] :=
  .quiet fun E a w h => by
    obtain ⟨cells', g1, g2⟩ := fill_row (E := E) (a := a) parts.toList us r0 r zc hp (fun p hp => h p.2 (by simp only [Op.operands]; simp; exact ⟨p.1, by simpa using hp⟩)) hs0 hr (hr0.mono (fun _ _ h => by cases h)) hn
    have hzr : (zeroValue t).run P w = .ok (.agg zc) w := by
      cases hq : P.info? t with
      | none => simp [hq] at hz
      | some i => simp [hq] at hz; simp [zeroValue, typeInfo, hq, hz]
    have hf : Instr.fill (fun i => some (i * 1, 1)) zc (parts.map fun (i, x) => (i, a.eval x)).toList = some cells' := by
      rw [Array.toList_map]; exact g1
    refine ⟨_, ?_, g2⟩
    simp only [execOp, Sem.run_bind, Instr.build, hzr, Result.andThen_ok, run_underlying hu, run_sizeOf_is hsz, Value.cells, hf]
    rfl
/-- A row in which some cells are another row's. -/
def AV.over : AV → Nat → AV → Nat → Option AV
  | .aggB l, o, .aggB s, q => some (.aggB (l.take o ++ s.take q ++ l.drop (o + q)))
  | .agg64 l, o, .agg64 s, q => some (.agg64 (l.take o ++ s.take q ++ l.drop (o + q)))
  | .agg32 l, o, .agg32 s, q => some (.agg32 (l.take o ++ s.take q ++ l.drop (o + q)))
  | .aggI l, o, .aggI s, q => some (.aggI (l.take o ++ s.take q ++ l.drop (o + q)))
  | .agg l, o, .agg s, q => some (.agg (l.take o ++ s.take q ++ l.drop (o + q)))
  | _, _, _, _ => none
theorem over_list {a s a' : AV} {o q : Nat} (h : a.over o s q = some a') : a'.list = a.list.take o ++ s.list.take q ++ a.list.drop (o + q) := by
  unfold AV.over at h
  split at h <;> first
    | (injection h with h; subst h; simp [AV.list, AV.parts, List.map_take, List.map_drop])
    | cases h
/-- copy. -/
theorem op_copy {cs : List AV} {q : Nat} (ht : P.underlying t = some (.slice e)) (hsz : (P.info? e).map (·.size) = some 1) (hx : aev T x = some (.sl b o n 1)) (hk : H b = some k) (hown : k.own = true) (hs : Srcs P T H y 1 m cs) (ho : o + n ≤ k.c.len) (hq : q = min m n)
    (hc : c'.list = k.c.list.take o ++ cs.take q ++ k.c.list.drop (o + q)) : OpSem P T H ⟨d, .call { callee := .builtin .copy, args := #[x, y], argTypes := #[t, t2] }, ty, ps, af, gd⟩ nm true (.i64 (q : Int)) [(b, some { k with c := c' })] := by
  intro E S n0 H2 a w hS hn0 _ _ hwr hle hop hR hf K Q hK
  have e0 := hwr rfl; subst e0
  have hrx := hop x (by simp [Op.operands, Call.operands]) _ hx
  obtain ⟨hcl, hsr⟩ := hs
  obtain ⟨news, s1, s2, s3⟩ := hsr E S a w (fun u hu => hop y (by simp [Op.operands, Call.operands]) u hu) hR
  obtain ⟨l', s', h3, arr, fz, g1, g2, g3, g4, g5⟩ := hR.blk b k hk
  have hll := len_list k.c
  have h4 := s3 w rfl
  have hmin : Nat.min m n = q := hq.symm
  have hff := h4.2 q (by omega)
  rw [Nat.mul_one] at hff
  have hone : ∀ r ∈ news.take q, r.oneCell' = true := fun r hr => by
    have hr := List.mem_of_mem_take hr
    obtain ⟨i, hi, rfl⟩ := List.mem_iff_getElem.1 hr
    have hi' : i < cs.length := by omega
    obtain ⟨p1, yv, p2, p3⟩ := s2 i cs[i] (List.getElem?_eq_getElem hi')
    rw [List.getElem?_eq_getElem hi] at p2; injection p2 with p2
    rw [p2]; exact p3.one p1
  have hlenq : (news.take q).length = q := by simp; omega
  have key : ∃ y' w', (Builtin.copy_ #[t, t2] ty #[a.eval x, a.eval y]).run P w = .ok y' w' ∧ Rel E (.i64 (q : Int)) y' ∧ RH E S (upd [(b, some { k with c := c' })] H2) w' ∧ Fr S w w' := by
    rcases hrx.sl_inv with ⟨lc, s, cp, q1, q2, q3, q4, q5⟩ | ⟨ad, hz0, q5⟩
    · rw [q1] at h3; injection h3 with h3; injection h3 with e1 e2; subst e1; subst e2
      obtain ⟨arr', hr, hsz', hv⟩ := run_storeCells_gen P lc o k.elem fz (news.take q) 0 arr w g1 (by rw [g2]; exact g3 hown) (by omega) hone
      have hst : (storeCells ⟨lc, o, none⟩ (news.take q)).run P w = .ok () (w.setRow lc arr') := hr
      refine ⟨.int .i64 (q : Int), w.setRow lc arr', ?_, .i64 _, ?_, Fr.setRow w lc arr' (hR.own b k lc s hk hown q1)⟩
      · rw [q5]
        simp [Builtin.copy_, run_underlying ht, h4.1, hmin, run_sizeOf_is hsz, hff, hst, goInt]
      · refine hR.write hk hown q1 arr arr' fz g1 hsz' c' (by rw [hc]; simp; omega) fun i r hr => ?_
        rw [hc] at hr
        rw [hv]
        have hA : (k.c.list.take o).length = o := by simp; omega
        have hB : (cs.take q).length = q := by simp; omega
        by_cases c1 : i < o
        · rw [List.append_assoc, List.getElem?_append_left (by omega), List.getElem?_take, if_pos c1] at hr
          rw [if_neg (by omega)]
          exact g5 i r hr
        · by_cases c2 : i < o + q
          · rw [List.append_assoc, List.getElem?_append_right (by omega), List.getElem?_append_left (by omega), List.getElem?_take, if_pos (by omega)] at hr
            rw [if_pos (by omega), List.getElem?_take, if_pos (by omega)]
            have := s2 _ r hr
            rwa [show i - (k.c.list.take o).length = i - (o + 0) by omega] at this
          · rw [List.append_assoc, List.getElem?_append_right (by omega), List.getElem?_append_right (by omega), List.getElem?_drop] at hr
            rw [if_neg (by omega)]
            have := g5 _ r hr
            rwa [show o + q + (i - (k.c.list.take o).length - (cs.take q).length) = i by omega] at this
    · subst hz0
      have hq0 : q = 0 := by omega
      subst hq0
      refine ⟨.int .i64 0, w, ?_, .i64 _, ?_, Fr.refl _ _⟩
      · rw [q5]
        simp only [List.take_zero] at hff
        simp [Builtin.copy_, run_underlying ht, h4.1, run_sizeOf_is hsz, hff, storeCells, goInt]
      · have hcc : c'.list = k.c.list := by rw [hc]; simp
        have hself : w.setRow l' arr = w := by
          obtain ⟨arr2, r1, r2, r3⟩ := run_storeCells_gen P l' 0 k.elem fz [] 0 arr w g1 (by rw [g2]; exact g3 hown) (by simp) (by simp)
          have : arr2 = arr := Array.ext_getElem? fun j => by rw [r3 j, if_neg (by simp)]
          subst this
          simp [storeCells] at r1
          exact r1.symm
        have := hR.write hk hown h3 arr arr fz g1 rfl c' (by rw [hcc]; omega) (fun i q hq => by rw [hcc] at hq; exact g5 i q hq)
        rwa [hself] at this
  obtain ⟨y', w', r1, r2, r3, r4⟩ := key
  unfold Oper.wp
  have hrun : (execOp a.eval ⟨d, .call { callee := .builtin .copy, args := #[x, y], argTypes := #[t, t2] }, ty, ps, af, gd⟩).run P w = .ok (.value y') w' := by
    simp [execOp, resolve, invoke, builtin, r1]
  rw [hrun]
  exact hK y' w' E (fun _ _ => rfl) r2 r3 r4
end
/-! Zero values. -/
theorem rel_row {E : Emb} {a : AV} {ds : Array Value} (hs : a.parts.isSome = true) (hl : a.list.length = ds.size) (h : ∀ (i : Nat) x, a.list[i]? = some x → x.one = true ∧ ∃ y, ds[i]? = some y ∧ Rel E x y) : Rel E a (.agg ds) :=
  .agg a a.list ds (parts_list hs) hl (fun x hx => by
    obtain ⟨i, hi, rfl⟩ := List.mem_iff_getElem.1 hx
    exact (h i _ (List.getElem?_eq_getElem hi)).1) (fun i x y hx hy => by
    obtain ⟨_, y', h1, h2⟩ := h i x hx
    rw [hy] at h1; injection h1 with h1; subst h1; exact h2)
theorem rz_B (E : Emb) (n : Nat) : Rel E (.aggB (List.replicate n 0)) (.agg (Array.replicate n (.int .u8 0))) := by
  refine rel_row rfl (by simp [AV.list, AV.parts]) fun i x hx => ?_
  simp only [AV.list, AV.parts, Option.getD_some, List.map_replicate, List.getElem?_replicate] at hx
  split at hx
  · rename_i h; injection hx with hx; subst hx; exact ⟨rfl, .int .u8 0, by simp [Array.getElem?_replicate, h], .u8 0⟩
  · cases hx
theorem rz_64 (E : Emb) (n : Nat) : Rel E (.agg64 (List.replicate n 0)) (.agg (Array.replicate n (.int .u64 0))) := by
  refine rel_row rfl (by simp [AV.list, AV.parts]) fun i x hx => ?_
  simp only [AV.list, AV.parts, Option.getD_some, List.map_replicate, List.getElem?_replicate] at hx
  split at hx
  · rename_i h; injection hx with hx; subst hx; exact ⟨rfl, .int .u64 0, by simp [Array.getElem?_replicate, h], .u64 0⟩
  · cases hx
theorem rz_32 (E : Emb) (n : Nat) : Rel E (.agg32 (List.replicate n 0)) (.agg (Array.replicate n (.int .u32 0))) := by
  refine rel_row rfl (by simp [AV.list, AV.parts]) fun i x hx => ?_
  simp only [AV.list, AV.parts, Option.getD_some, List.map_replicate, List.getElem?_replicate] at hx
  split at hx
  · rename_i h; injection hx with hx; subst hx; exact ⟨rfl, .int .u32 0, by simp [Array.getElem?_replicate, h], .u32 0⟩
  · cases hx
theorem rz_I (E : Emb) (n : Nat) : Rel E (.aggI (List.replicate n 0)) (.agg (Array.replicate n (.int .i64 0))) := by
  refine rel_row rfl (by simp [AV.list, AV.parts]) fun i x hx => ?_
  simp only [AV.list, AV.parts, Option.getD_some, List.map_replicate, List.getElem?_replicate] at hx
  split at hx
  · rename_i h; injection hx with hx; subst hx; exact ⟨rfl, .int .i64 0, by simp [Array.getElem?_replicate, h], .i64 0⟩
  · cases hx
/-! Worlds. -/
theorem rel_bytes (E : Emb) (l : List UInt8) : Rel E (.aggB l) (.agg (l.map fun x => Value.int .u8 (x.toNat : Int)).toArray) := by
  refine rel_row rfl (by simp [AV.list, AV.parts]) fun i x hx => ?_
  obtain ⟨y, hy, rfl⟩ := get_map_some hx
  exact ⟨rfl, .int .u8 (y.toNat : Int), by simp [hy], .u8 y⟩
theorem relB_inv {E : Emb} {l : List UInt8} {v : Value} (h : Rel E (.aggB l) v) : v = .agg (l.map fun x => Value.int .u8 (x.toNat : Int)).toArray := by
  obtain ⟨ds, rfl, h1, _, h3⟩ := h.agg_inv (cs := l.map .u8) rfl
  congr 1
  apply Array.ext_getElem?
  intro i
  by_cases hi : i < l.length
  · have hi2 : i < ds.size := by rw [← h1]; simpa using hi
    have := (h3 i (.u8 l[i]) ds[i] (by simp [hi]) (Array.getElem?_eq_getElem hi2)).u8_inv
    rw [Array.getElem?_eq_getElem hi2, this]; simp [hi]
  · rw [Array.getElem?_eq_none (by rw [← h1]; simpa using hi), Array.getElem?_eq_none (by simpa using hi)]
theorem args0 {E : Emb} {vals : Array Value} (hl : ([] : List AV).length = vals.size) : vals = #[] := by
  have : vals.size = 0 := hl.symm
  exact Array.eq_empty_of_size_eq_zero this
theorem args1 {E : Emb} {a : AV} {vals : Array Value} (hl : [a].length = vals.size) (hr : ∀ (i : Nat) x y, [a][i]? = some x → vals[i]? = some y → Rel E x y) : ∃ x, vals = #[x] ∧ Rel E a x := by
  match vals, hl, hr with
  | ⟨[x]⟩, _, hr => exact ⟨x, rfl, hr 0 a x rfl rfl⟩
theorem args2 {E : Emb} {a b : AV} {vals : Array Value} (hl : [a, b].length = vals.size) (hr : ∀ (i : Nat) x y, [a, b][i]? = some x → vals[i]? = some y → Rel E x y) : ∃ x y, vals = #[x, y] ∧ Rel E a x ∧ Rel E b y := by
  match vals, hl, hr with
  | ⟨[x, y]⟩, _, hr => exact ⟨x, y, rfl, hr 0 a x rfl rfl, hr 1 b y rfl rfl⟩
theorem args3 {E : Emb} {a b c : AV} {vals : Array Value} (hl : [a, b, c].length = vals.size) (hr : ∀ (i : Nat) x y, [a, b, c][i]? = some x → vals[i]? = some y → Rel E x y) : ∃ x y z, vals = #[x, y, z] ∧ Rel E a x ∧ Rel E b y ∧ Rel E c z := by
  match vals, hl, hr with
  | ⟨[x, y, z]⟩, _, hr => exact ⟨x, y, z, rfl, hr 0 a x rfl rfl, hr 1 b y rfl rfl, hr 2 c z rfl rfl⟩
theorem args4 {E : Emb} {a b c d : AV} {vals : Array Value} (hl : [a, b, c, d].length = vals.size) (hr : ∀ (i : Nat) x y, [a, b, c, d][i]? = some x → vals[i]? = some y → Rel E x y) : ∃ x y z u, vals = #[x, y, z, u] ∧ Rel E a x ∧ Rel E b y ∧ Rel E c z ∧ Rel E d u := by
  match vals, hl, hr with
  | ⟨[x, y, z, u]⟩, _, hr => exact ⟨x, y, z, u, rfl, hr 0 a x rfl rfl, hr 1 b y rfl rfl, hr 2 c z rfl rfl, hr 3 d u rfl rfl⟩
/-- A contract over worlds, of a call that gives flat values back and turns nothing. -/
theorem meets_of_walk {P : Program} {f : FuncId} {args : List AV} {H0 : List (Nat × Option ABlk)} {v : AV}
    (h : ∀ (E : Emb) (S : Nat → Prop) (vals : Array Value) (w : World), (∀ g, g < 500 → ∃ s, E g = some (g, s)) → args.length = vals.size → (∀ (i : Nat) x y, args[i]? = some x → vals[i]? = some y → Rel E x y) → RH E S (hget H0) w →
      Calls P f vals w fun e w' => ∃ y, e = .returned y ∧ Rel (fun _ => none) v y ∧ Below w.heap.size w w') : Meets P f args H0 v [] := by
  intro E S n0 vals w hg _ hl hr hR hS h0
  refine (h E S vals w hg hl hr hR).mono fun e w' hh => ?_
  obtain ⟨y, h1, h2, h3⟩ := hh
  exact ⟨y, E, h1, fun _ _ => rfl, h2.mono (fun _ _ h => by cases h), ⟨fun b k hb => (by cases hb), fun b _ k _ _ _ _ hb => (by cases hb), fun b k _ _ hb => (by cases hb)⟩, ⟨h3.os, h3.tape, h3.output, h3.size, fun k hk _ => h3.block k hk⟩⟩
/-- A known table reads cell by cell. -/
theorem tab_cell {E : Emb} {S : Nat → Prop} {F : Hp} {w : World} (hR : RH E S F w) (hg : ∀ g, g < 500 → ∃ s, E g = some (g, s)) {g : Nat} (hlt : g < 500) {k : ABlk} (hk : F g = some k) {i : Nat} {x : AV} (hx : k.c.list[i]? = some x) : ∃ y, w.cell? ⟨g, i, none⟩ = some y ∧ Rel E x y := by
  obtain ⟨l, s, h1, h2⟩ := hR.blk g k hk
  obtain ⟨s', h3⟩ := hg g hlt
  rw [h3] at h1; injection h1 with h1; injection h1 with e1 _; subst e1
  exact (h2.cell hx).2
def sizeAt (w : World) (b : Nat) : Nat := match w.heap[b]? with
  | some (.cells arr _ _) => arr.size
  | _ => 0
def topE (w : World) : Emb := fun b => if b < 500 then some (b, sizeAt w b) else none
/-- What a law yields, over worlds. -/
theorem walk_of_meets {P : Program} {f : FuncId} {args : List AV} {H0 H1 : List (Nat × Option ABlk)} {vals : Array Value} {w : World} (hm : Meets P f args H0 (.bool true) H1) (hl : args.length = vals.size) (hr : ∀ (i : Nat) x y, args[i]? = some x → vals[i]? = some y → Rel (topE w) x y)
    (hH : ∀ b k, hget H0 b = some k → b < 500 ∧ k.own = false ∧ BAt (topE w) k w b (sizeAt w b)) : Calls P f vals w fun e w' => e = .returned (.bool true) ∧ Below w.heap.size w w' := by
  refine (hm (topE w) (fun k => w.heap.size ≤ k) w.heap.size vals w (fun g hg => ⟨sizeAt w g, by simp [topE, hg]⟩) (fun b hb => by simp [topE]; omega) hl hr ⟨fun b k hk => ?_, fun b b' k k' l s s' h1 _ h3 => ?_, fun b k l s h1 h2 => ?_⟩ (fun _ h => h) (Nat.le_refl _)).mono fun e w' hh => ?_
  · obtain ⟨h1, _, h3⟩ := hH b k hk
    exact ⟨b, sizeAt w b, by simp [topE, h1], h3⟩
  · rw [(hH b k h1).2.1] at h3; cases h3
  · rw [(hH b k h1).2.1] at h2; cases h2
  · obtain ⟨y, E', h1, _, h2, _, hF⟩ := hh
    refine ⟨by rw [h1, h2.bool_inv], hF.os, hF.tape, hF.output, hF.size, fun k hk => hF.block k hk (by omega)⟩
/-- A table of numbers, as a world lays it. -/
theorem bat_ints {w : World} {g : Nat} {l : List Int} {E : Emb} (h0 : 0 < l.length) (h : ∀ i, i < l.length → w.cell? ⟨g, i, none⟩ = some (.int .i64 (l.getD i 0))) : ∃ e, BAt E ⟨.aggI l, e, false⟩ w g (sizeAt w g) := by
  have hc := h 0 h0
  unfold World.cell? at hc
  split at hc
  · rename_i arr e fz hb
    refine ⟨e, arr, fz, hb, by simp [sizeAt, hb], fun h => (by cases h), ?_, fun i x hx => ?_⟩
    · have := h (l.length - 1) (by omega)
      rw [cell_of_row w g _ arr e fz hb] at this
      have := (Array.getElem?_eq_some_iff.1 this).1
      simp [AV.list, AV.parts, sizeAt, hb]; omega
    · obtain ⟨y, hy, rfl⟩ := get_map_some (l := l) hx
      have hi := (List.getElem?_eq_some_iff.1 hy).1
      have := h i hi
      rw [cell_of_row w g _ arr e fz hb] at this
      refine ⟨rfl, .int .i64 y, ?_, .i64 y⟩
      rw [this]
      simp [List.getD_eq_getElem?_getD, hy]
  · cases hc
end Go.Proofs.YtaenhghihhhikaaDoor
