/-
  Texts of this claim.
-/
import Derived.Maps.Keyed
import Derived.Maps.RangeRun
import Derived.Test.YticickigndgpcaaDoorGP1A
namespace Go.Proofs.YticickigndgpcaaDoor
open Go.RowKit
open Go.ChangeMaps (setBlock)
theorem setBlock_same {w : World} {b : Nat} {o o0 : Obj} (h : w.heap[b]? = some o0) : (setBlock w b o).heap[b]? = some o := by
  have := lt_of_heap h
  simp [setBlock, this]
theorem setBlock_other {w : World} {b i : Nat} {o : Obj} (h : i ≠ b) : (setBlock w b o).heap[i]? = w.heap[i]? := by
  simp only [setBlock]; rw [Array.getElem?_setIfInBounds, if_neg (by omega)]
theorem Fr.setBlock {S : Nat → Prop} (w : World) (b : Nat) (o : Obj) (hb : S b) : Fr S w (setBlock w b o) :=
  ⟨rfl, rfl, rfl, by simp [Go.ChangeMaps.setBlock], fun k _ hn => setBlock_other fun e => hn (by rw [e]; exact hb), .same rfl⟩
theorem heap_old_of (w : World) (o : Obj) (k : Nat) (hk : k < w.heap.size) : (w.alloc o).heap[k]? = w.heap[k]? := by
  show (w.heap.push o)[k]? = _
  rw [Array.getElem?_push, if_neg (by omega)]
theorem RH.allocO {E : Emb} {S : Nat → Prop} {H : Hp} {w : World} (h : RH E S H w) (hS : S w.heap.size) {b : Nat} (hb : E b = none) (k : ABlk) (o : Obj) (s : Nat)
    (hk0 : KAt (E.put b (w.heap.size, s)) k (w.alloc o) w.heap.size s) : RH (E.put b (w.heap.size, s)) S (upd [(b, some k)] H) (w.alloc o) := by
  have hle := Emb.put_le (E := E) (b := b) (p := (w.heap.size, s)) hb
  have lt : ∀ n k' l s, H n = some k' → E n = some (l, s) → l < w.heap.size := fun n k' l s hk he => by
    obtain ⟨l', s', h1, h2⟩ := h.blk n k' hk
    rw [he] at h1; injection h1 with h1; injection h1 with h1 _; rw [h1]; exact h2.lt
  refine ⟨fun n k' hk => ?_, fun n n' k1 k2 l s1 s' h1 h2 h3 h4 h5 => ?_, fun n k' l s1 h1 h2 h3 => ?_, fun a L s1 ha => ?_⟩
  rotate_right 1
  · have hd := h.deep a L s1 ha
    refine ⟨hd.1.mono (heap_old_of w _ a hd.1.lt), fun n k' s' hk ho' he => ?_⟩
    rw [upd_one] at hk
    split at hk
    · rename_i e; subst e
      rw [Emb.put_same] at he; injection he with he; injection he with he _
      have := hd.1.lt
      omega
    · rename_i e
      rw [Emb.put_other _ _ e] at he
      exact hd.2 n k' s' hk ho' he
  · rw [upd_one] at hk
    split at hk
    · rename_i e; subst e; injection hk with hk; subst hk
      exact ⟨w.heap.size, s, Emb.put_same _ _ _, hk0⟩
    · obtain ⟨l, s, h1, h2⟩ := h.blk n k' hk
      exact ⟨l, s, hle.1 _ _ h1, h2.mono hle (heap_old_of w _ l h2.lt)⟩
  · rw [upd_one] at h1 h2
    by_cases e1 : n = b
    · by_cases e2 : n' = b
      · rw [e1, e2]
      · rw [if_neg e2] at h2
        rw [Emb.put_other _ _ e2] at h5
        subst e1
        rw [Emb.put_same] at h4; injection h4 with h4; injection h4 with h4 _
        have := lt n' k2 _ _ h2 h5
        omega
    · rw [if_neg e1] at h1
      rw [Emb.put_other _ _ e1] at h4
      by_cases e2 : n' = b
      · subst e2
        rw [Emb.put_same] at h5; injection h5 with h5; injection h5 with h5 _
        have := lt n k1 _ _ h1 h4
        omega
      · rw [if_neg e2] at h2
        rw [Emb.put_other _ _ e2] at h5
        exact h.inj n n' k1 k2 l s1 s' h1 h2 h3 h4 h5
  · rw [upd_one] at h1
    by_cases e1 : n = b
    · subst e1
      rw [Emb.put_same] at h3; injection h3 with h3; injection h3 with h3 _
      rw [← h3]; exact hS
    · rw [if_neg e1] at h1
      rw [Emb.put_other _ _ e1] at h3
      exact h.own n k' l s1 h1 h2 h3
theorem RH.turn {E : Emb} {S : Nat → Prop} {H : Hp} {w : World} (h : RH E S H w) {b l s : Nat} {k : ABlk} (hk : H b = some k) (ho : k.own = true) (he : E b = some (l, s)) (o : Obj) (c' : AV)
    (hk0 : KAt E ⟨c', k.elem, k.own⟩ (setBlock w l o) l s) : RH E S (upd [(b, some ⟨c', k.elem, k.own⟩)] H) (setBlock w l o) := by
  refine ⟨fun n k' hn => ?_, fun n n' k1 k2 l1 s1 s1' g1 g2 g3 g4 g5 => ?_, fun n k' l1 s1 g1 g2 g3 => ?_, fun a L s1 ha => ?_⟩
  rotate_right 1
  · have hd := h.deep a L s1 ha
    have hne : l ≠ a := fun e => hd.2 b k s hk ho (by rw [he, e])
    refine ⟨hd.1.mono (setBlock_other hne.symm), fun n k' s' hn ho' => ?_⟩
    rw [upd_one] at hn
    split at hn
    · rename_i e; subst e; exact hd.2 n k s' hk ho
    · exact hd.2 n k' s' hn ho'
  · rw [upd_one] at hn
    split at hn
    · rename_i e; subst e; injection hn with hn; subst hn
      exact ⟨l, s, he, hk0⟩
    · rename_i e
      obtain ⟨l1, s1, g1, g2⟩ := h.blk n k' hn
      refine ⟨l1, s1, g1, g2.mono (Emb.le_refl _) (setBlock_other (fun el => ?_))⟩
      subst el
      exact e (h.inj b n k k' l1 s s1 hk hn ho he g1).symm
  · have q : ∀ n k', upd [(b, some ⟨c', k.elem, k.own⟩)] H n = some k' → ∃ k0, H n = some k0 ∧ k0.own = k'.own := fun n k' hn => by
      rw [upd_one] at hn
      split at hn
      · rename_i e; subst e; injection hn with hn; subst hn; exact ⟨k, hk, rfl⟩
      · exact ⟨k', hn, rfl⟩
    obtain ⟨k0, q1, q2⟩ := q _ _ g1
    obtain ⟨k0', q1', _⟩ := q _ _ g2
    exact h.inj n n' k0 k0' l1 s1 s1' q1 q1' (q2.trans g3) g4 g5
  · rw [upd_one] at g1
    split at g1
    · rename_i e; subst e
      rw [he] at g3; injection g3 with g3; injection g3 with g3 _; subst g3
      exact h.own n k l s hk ho he
    · exact h.own n k' l1 s1 g1 g2 g3
section
variable {P : Program} {T : Nat → Option AV} {H : Hp} {nm : Nat} {wr : Bool} {d : Option Tmp} {ty t kt et : TypeId} {ps : String} {af : Array Edge} {gd : Option (Nat × Bool)} {x y z : Operand} {b i : Nat} {k : ABlk} {u v v' kx c' : AV} {kv : Value} {ks : List Value} {vs : List AV} {bs : List Nat} {clk : Nat}
theorem op_makeMap (e : Nat) {c : AV} (hc : c.ents = some ([], [], [], 0) := by rfl) : OpSem P T H ⟨d, .makeMap t none, ty, ps, af, gd⟩ nm wr (.mp nm) [(nm, some ⟨c, e, true⟩)] := by
  intro E S n0 H2 a w hS hn _ _ _ hle hop hR hf K Q hK
  have hR2 := hR.allocO (hS _ hn) (hf nm (Nat.le_refl _) (by omega)) ⟨c, e, true⟩ (.map #[] 0) 0 (.map [] [] [] 0 hc rfl ⟨#[], heap_alloc_new w _, rfl, rfl, rfl, fun i e he => by simp at he⟩)
  unfold Oper.wp
  rw [show (execOp a.eval ⟨d, .makeMap t none, ty, ps, af, gd⟩).run P w = .ok (.value (.map (some w.heap.size))) (w.alloc (.map #[] 0)) from rfl]
  exact hK _ _ (E.put nm (w.heap.size, 0)) (fun b hb => Emb.put_other _ _ (fun e => by
    subst e
    rcases hb with hb | hb
    · simp [lk] at hb
    · exact hb ⟨Nat.le_refl _, by omega⟩)) (Emb.dx_refl _ _) (.mp nm _ (Emb.put_same _ _ _)) hR2 (Fr.alloc S w _)
structure KeysOk (P : Program) (kt : TypeId) (ks : List Value) (kx : AV) (kv : Value) : Prop where
  law : Maps.Keyed P kt
  all : ∀ q ∈ ks, (keyOf P kt q).isSome = true
  is : (keyOf P kt kv).isSome = true
  val : ∀ (E : Emb) (y : Value), Rel E kx y → y = kv
theorem find_map {w : World} {E : Emb} {l : Nat} (hkk : KeysOk P kt ks kx kv) (hm : MAt E ks vs bs clk w l) : ∃ es, w.heap[l]? = some (.map es clk) ∧ es.size = ks.length ∧ vs.length = ks.length ∧ bs.length = ks.length ∧
    (∀ (i : Nat) e, es[i]? = some e → bs[i]? = some e.born ∧ ks[i]? = some e.key ∧ ∃ x, vs[i]? = some x ∧ Rel E x e.val) ∧ (∀ em, (Instr.checkKey em 10000 kt kv).run P w = .ok () w) ∧
    (((Instr.findKey kt kv es.toList).run P w = .ok none w ∧ ∀ (j : Nat), ks[j]? ≠ some kv) ∨ ∃ (j : Nat) (e : MapEntry), (Instr.findKey kt kv es.toList).run P w = .ok (some (j, e.val)) w ∧ es[j]? = some e ∧ e.key = kv) := by
  obtain ⟨es, h1, h2, h3, h4, h5⟩ := hm
  obtain ⟨lv, hlv⟩ := Option.isSome_iff_exists.1 hkk.is
  refine ⟨es, h1, h2, h3, h4, h5, fun em => hkk.law.check w em hlv, ?_⟩
  rcases hkk.law.find w hlv es.toList (fun e he => by
    obtain ⟨j, hj⟩ := List.mem_iff_getElem?.1 he
    obtain ⟨_, q2, _⟩ := h5 j e (by simpa using hj)
    exact Option.isSome_iff_exists.1 (hkk.all _ (List.mem_of_getElem? q2))) with ⟨g1, g2⟩ | ⟨j, e, g1, g2, g3⟩
  · refine .inl ⟨g1, fun j hj => ?_⟩
    have hlt : j < es.size := by rw [h2]; exact (List.getElem?_eq_some_iff.1 hj).1
    obtain ⟨_, q2, _⟩ := h5 j es[j] (Array.getElem?_eq_getElem hlt)
    rw [hj] at q2; injection q2 with q2
    exact g2 es[j] (by simp) q2.symm
  · exact .inr ⟨j, e, g1, by simpa using g2, g3⟩
theorem op_lookupY (hkk : KeysOk P kt ks kx kv) (ht : P.underlying t = some (.map kt et)) (hx : aev T x = some (.mp b)) (hy : aev T y = some kx) (hk : H b = some k) (hc : k.c.ents = some (ks, vs, bs, clk)) (hi : ∀ j, ks[j]? = some kv ↔ j = i) (hv : vs[i]? = some v) (hvv : ∀ (E : Emb) (y : Value), Rel E v y → Rel E v' y) :
    OpSem P T H ⟨d, .lookup t x y true, ty, ps, af, gd⟩ nm wr (.tup [v', .bool true]) [] :=
  .reads fun E S a w hop hR => by
    obtain ⟨l, h1, h2⟩ := (hop x mem21 _ hx).mp_inv
    have h3 := hkk.val E _ (hop y mem22 _ hy)
    obtain ⟨l', s', g1, g2⟩ := hR.blk b k hk
    rw [h1] at g1; injection g1 with g1; injection g1 with e1 e2; subst e1; subst e2
    obtain ⟨es, q1, q2, q3, q4, q5, q6, q7⟩ := find_map hkk (g2.isMap hc).2
    rcases q7 with ⟨_, p2⟩ | ⟨j, e, p1, p2, p3⟩
    · exact absurd ((hi i).2 rfl) (p2 i)
    · obtain ⟨_, r2, xv, r3, r4⟩ := q5 j e p2
      rw [p3] at r2
      have hj := (hi j).1 r2
      subst hj
      rw [hv] at r3; injection r3 with r3; subst r3
      refine ⟨.tuple #[e.val, .bool true], ?_, .tup _ _ rfl (fun i' x' y' hx' hy' => ?_)⟩
      · simp [execOp, Instr.lookup, h2, h3, run_underlying ht, MapKept.run_getObj_map q1, q6, p1]
      · match i', hx', hy' with
        | 0, hx', hy' => simp at hx' hy'; subst hx'; subst hy'; exact hvv E _ r4
        | 1, hx', hy' => simp at hx' hy'; subst hx'; subst hy'; exact .bool _
        | n + 2, hx', _ => simp at hx'
theorem op_lookupN {zv : Value} (hkk : KeysOk P kt ks kx kv) (ht : P.underlying t = some (.map kt et)) (hz : (P.info? et).map (·.zero) = some (some zv)) (hr0 : Rel Emb.nil v zv) (hx : aev T x = some (.mp b)) (hy : aev T y = some kx) (hk : H b = some k) (hc : k.c.ents = some (ks, vs, bs, clk)) (hi : ∀ j : Nat, ks[j]? ≠ some kv) :
    OpSem P T H ⟨d, .lookup t x y true, ty, ps, af, gd⟩ nm wr (.tup [v, .bool false]) [] :=
  .reads fun E S a w hop hR => by
    obtain ⟨l, h1, h2⟩ := (hop x mem21 _ hx).mp_inv
    have h3 := hkk.val E _ (hop y mem22 _ hy)
    obtain ⟨l', s', g1, g2⟩ := hR.blk b k hk
    rw [h1] at g1; injection g1 with g1; injection g1 with e1 e2; subst e1; subst e2
    obtain ⟨es, q1, q2, q3, q4, q5, q6, q7⟩ := find_map hkk (g2.isMap hc).2
    rcases q7 with ⟨p1, _⟩ | ⟨j, e, p1, p2, p3⟩
    · refine ⟨.tuple #[zv, .bool false], ?_, .tup _ _ rfl (fun i' x' y' hx' hy' => ?_)⟩
      · obtain ⟨ie, hie, hz⟩ := Option.map_eq_some_iff.1 hz
        have hzr : (zeroValue et).run P w = .ok zv w := by simp [zeroValue, typeInfo, hie, hz]
        simp [execOp, Instr.lookup, h2, h3, run_underlying ht, MapKept.run_getObj_map q1, q6, p1, hzr]
      · match i', hx', hy' with
        | 0, hx', hy' => simp at hx' hy'; subst hx'; subst hy'; exact hr0.mono (Emb.nil_le _)
        | 1, hx', hy' => simp at hx' hy'; subst hx'; subst hy'; exact .bool _
        | n + 2, hx', _ => simp at hx'
    · obtain ⟨_, r2, _⟩ := q5 j e p2
      rw [p3] at r2
      exact absurd r2 (hi j)
theorem op_mapPutY (hkk : KeysOk P kt ks kx kv) (ht : P.underlying t = some (.map kt et)) (hx : aev T x = some (.mp b)) (hy : aev T y = some kx) (hz : aev T z = some u) (hk : H b = some k) (hown : k.own = true) (hc : k.c.ents = some (ks, vs, bs, clk)) (hi : ∀ j, ks[j]? = some kv ↔ j = i) (hvv : ∀ (E : Emb) (y : Value), Rel E u y → Rel E v y) (hc' : c'.ents = some (ks, vs.set i v, bs, clk)) :
    OpSem P T H ⟨d, .mapUpdate t x y z, ty, ps, af, gd⟩ nm wr (.val undef) [(b, some ⟨c', k.elem, k.own⟩)] := by
  intro E S n0 H2 a w hS hn _ _ hwr hle hop hR hf K Q hK
  replace hk := hle b k hk
  obtain ⟨l, h1, h2⟩ := (hop x (by simp [Op.operands]) _ hx).mp_inv
  have h3 := hkk.val E _ (hop y (by simp [Op.operands]) _ hy)
  have h4 := hvv E _ (hop z (by simp [Op.operands]) _ hz)
  obtain ⟨l', s', g1, g2⟩ := hR.blk b k hk
  rw [h1] at g1; injection g1 with g1; injection g1 with e1 e2; subst e1; subst e2
  obtain ⟨es, q1, q2, q3, q4, q5, q6, q7⟩ := find_map hkk (g2.isMap hc).2
  rcases q7 with ⟨_, p2⟩ | ⟨j, e, p1, p2, p3⟩
  · exact absurd ((hi i).2 rfl) (p2 i)
  · obtain ⟨r1, r2, xv, r3, r4⟩ := q5 j e p2
    rw [p3] at r2
    have hj := (hi j).1 r2
    subst hj
    obtain ⟨lv, hlv⟩ := Option.isSome_iff_exists.1 hkk.is
    have hjs : j < es.size := (Array.getElem?_eq_some_iff.1 p2).1
    have hrun : (execOp a.eval ⟨d, .mapUpdate t x y z, ty, ps, af, gd⟩).run P w = .ok .skip (setBlock w l (.map (es.modify j fun e => { e with key := kv, val := a.eval z }) clk)) := by
      simp [execOp, Instr.mapUpdate, h2, h3, run_underlying ht, MapKept.run_getObj_map q1, q6, p1, p2, p3, hkk.law.stays w hlv, MapKept.run_setObj_map _ q1, setBlock]
    unfold Oper.wp
    rw [hrun]
    refine hK undef _ E (fun _ _ => rfl) (Emb.dx_refl _ _) (.val _) (hR.turn hk hown h1 _ c' (.map ks _ bs clk hc' rfl ⟨_, setBlock_same q1, by simpa using q2, by simpa using q3, q4, fun m e' he => ?_⟩)) (Fr.setBlock w l _ (hR.own b k l 0 hk hown h1))
    rw [Array.getElem?_modify] at he
    split at he
    · rename_i hjm
      subst hjm
      rw [p2] at he; injection he with he; subst he
      exact ⟨r1, r2, v, by rw [List.getElem?_set_self (by omega)], h4⟩
    · rename_i hjm
      obtain ⟨o1, o2, xo, o3, o4⟩ := q5 m e' he
      exact ⟨o1, o2, xo, by rw [List.getElem?_set_ne hjm]; exact o3, o4⟩
theorem op_mapPutN (hkk : KeysOk P kt ks kx kv) (ht : P.underlying t = some (.map kt et)) (hx : aev T x = some (.mp b)) (hy : aev T y = some kx) (hz : aev T z = some u) (hk : H b = some k) (hown : k.own = true) (hc : k.c.ents = some (ks, vs, bs, clk)) (hi : ∀ j : Nat, ks[j]? ≠ some kv) (hvv : ∀ (E : Emb) (y : Value), Rel E u y → Rel E v y) (hc' : c'.ents = some (ks ++ [kv], vs ++ [v], bs ++ [clk], clk + 1)) :
    OpSem P T H ⟨d, .mapUpdate t x y z, ty, ps, af, gd⟩ nm wr (.val undef) [(b, some ⟨c', k.elem, k.own⟩)] := by
  intro E S n0 H2 a w hS hn _ _ hwr hle hop hR hf K Q hK
  replace hk := hle b k hk
  obtain ⟨l, h1, h2⟩ := (hop x (by simp [Op.operands]) _ hx).mp_inv
  have h3 := hkk.val E _ (hop y (by simp [Op.operands]) _ hy)
  have h4 := hvv E _ (hop z (by simp [Op.operands]) _ hz)
  obtain ⟨l', s', g1, g2⟩ := hR.blk b k hk
  rw [h1] at g1; injection g1 with g1; injection g1 with e1 e2; subst e1; subst e2
  obtain ⟨es, q1, q2, q3, q4, q5, q6, q7⟩ := find_map hkk (g2.isMap hc).2
  rcases q7 with ⟨p1, _⟩ | ⟨j, e, p1, p2, p3⟩
  · have hrun : (execOp a.eval ⟨d, .mapUpdate t x y z, ty, ps, af, gd⟩).run P w = .ok .skip (setBlock w l (.map (es.push { key := kv, val := a.eval z, born := clk }) (clk + 1))) := by
      simp [execOp, Instr.mapUpdate, h2, h3, run_underlying ht, MapKept.run_getObj_map q1, q6, p1, MapKept.run_setObj_map _ q1, setBlock]
    unfold Oper.wp
    rw [hrun]
    refine hK undef _ E (fun _ _ => rfl) (Emb.dx_refl _ _) (.val _) (hR.turn hk hown h1 _ c' (.map _ _ _ _ hc' rfl ⟨_, setBlock_same q1, by simp [q2], by simp [q3], by simp [q4], fun m e' he => ?_⟩)) (Fr.setBlock w l _ (hR.own b k l 0 hk hown h1))
    rw [Array.getElem?_push] at he
    split at he
    · rename_i hm
      injection he with he; subst he
      subst hm
      exact ⟨by rw [List.getElem?_append_right (by omega), show es.size - bs.length = 0 by omega]; rfl, by rw [List.getElem?_append_right (by omega), show es.size - ks.length = 0 by omega]; rfl, v, by rw [List.getElem?_append_right (by omega), show es.size - vs.length = 0 by omega]; rfl, h4⟩
    · obtain ⟨o1, o2, xo, o3, o4⟩ := q5 m e' he
      have hm : m < es.size := (Array.getElem?_eq_some_iff.1 he).1
      exact ⟨by rw [List.getElem?_append_left (by omega)]; exact o1, by rw [List.getElem?_append_left (by omega)]; exact o2, xo, by rw [List.getElem?_append_left (by omega)]; exact o3, o4⟩
  · obtain ⟨_, r2, _⟩ := q5 j e p2
    rw [p3] at r2
    exact absurd r2 (hi j)
theorem op_deleteY (hkk : KeysOk P kt ks kx kv) (ht : P.underlying t = some (.map kt et)) (hx : aev T x = some (.mp b)) (hy : aev T y = some kx) (hk : H b = some k) (hown : k.own = true) (hc : k.c.ents = some (ks, vs, bs, clk)) (hi : ∀ j, ks[j]? = some kv ↔ j = i) (hc' : c'.ents = some (ks.eraseIdx i, vs.eraseIdx i, bs.eraseIdx i, clk)) {t2 : TypeId} :
    OpSem P T H ⟨d, .call { callee := .builtin .delete, args := #[x, y], argTypes := #[t, t2] }, ty, ps, af, gd⟩ nm wr (.tup []) [(b, some ⟨c', k.elem, k.own⟩)] := by
  intro E S n0 H2 a w hS hn _ _ hwr hle hop hR hf K Q hK
  replace hk := hle b k hk
  obtain ⟨l, h1, h2⟩ := (hop x (by simp [Op.operands, Call.operands]) _ hx).mp_inv
  have h3 := hkk.val E _ (hop y (by simp [Op.operands, Call.operands]) _ hy)
  obtain ⟨l', s', g1, g2⟩ := hR.blk b k hk
  rw [h1] at g1; injection g1 with g1; injection g1 with e1 e2; subst e1; subst e2
  obtain ⟨es, q1, q2, q3, q4, q5, q6, q7⟩ := find_map hkk (g2.isMap hc).2
  rcases q7 with ⟨_, p2⟩ | ⟨j, e, p1, p2, p3⟩
  · exact absurd ((hi i).2 rfl) (p2 i)
  · obtain ⟨r1, r2, xv, r3, r4⟩ := q5 j e p2
    rw [p3] at r2
    have hj := (hi j).1 r2
    subst hj
    have hjs : j < es.size := (Array.getElem?_eq_some_iff.1 p2).1
    have hrun : (execOp a.eval ⟨d, .call { callee := .builtin .delete, args := #[x, y], argTypes := #[t, t2] }, ty, ps, af, gd⟩).run P w = .ok (.value (.tuple #[])) (setBlock w l (.map (es.eraseIdxIfInBounds j) clk)) := by
      have hb : (Builtin.delete_ #[t, t2] ty #[a.eval x, a.eval y]).run P w = .ok (.tuple #[]) (setBlock w l (.map (es.eraseIdxIfInBounds j) clk)) := by
        simp [Builtin.delete_, h2, h3, run_underlying ht, MapKept.run_getObj_map q1, q6, p1, MapKept.run_setObj_map _ q1, setBlock]
      simp [execOp, resolve, invoke, builtin, hb]
    unfold Oper.wp
    rw [hrun]
    refine hK _ _ E (fun _ _ => rfl) (Emb.dx_refl _ _) (.tup [] #[] rfl (fun i' x' y' hx' => by simp at hx')) (hR.turn hk hown h1 _ c' (.map _ _ _ clk hc' rfl ⟨_, setBlock_same q1, by simp [Array.eraseIdxIfInBounds, hjs, List.length_eraseIdx, ← q2], by simp [List.length_eraseIdx, q3], by simp [List.length_eraseIdx, q4], fun m e' he => ?_⟩)) (Fr.setBlock w l _ (hR.own b k l 0 hk hown h1))
    have he2 : (es.toList.eraseIdx j)[m]? = some e' := by
      rw [← he, Array.eraseIdxIfInBounds, dif_pos hjs, ← Array.getElem?_toList]
      simp
    rw [List.getElem?_eraseIdx] at he2
    simp only [List.getElem?_eraseIdx]
    split at he2
    · rename_i hm
      obtain ⟨o1, o2, xo, o3, o4⟩ := q5 m e' (by simpa using he2)
      simp only [if_pos hm]
      exact ⟨o1, o2, xo, o3, o4⟩
    · rename_i hm
      obtain ⟨o1, o2, xo, o3, o4⟩ := q5 (m + 1) e' (by simpa using he2)
      simp only [if_neg hm]
      exact ⟨o1, o2, xo, o3, o4⟩
theorem op_len_map (ht : P.underlying t = some (.map kt et)) (hx : aev T x = some (.mp b)) (hk : H b = some k) (hc : k.c.ents = some (ks, vs, bs, clk)) :
    OpSem P T H ⟨d, .call { callee := .builtin .len, args := #[x], argTypes := #[t] }, ty, ps, af, gd⟩ nm wr (.i64 (ks.length : Int)) [] :=
  .reads fun E S a w hop hR => by
    obtain ⟨l, h1, h2⟩ := (hop x (by simp [Op.operands, Call.operands]) _ hx).mp_inv
    obtain ⟨l', s', g1, g2⟩ := hR.blk b k hk
    rw [h1] at g1; injection g1 with g1; injection g1 with e1 e2; subst e1; subst e2
    obtain ⟨es, q1, q2, _⟩ := (g2.isMap hc).2
    have hb : (Builtin.len_ #[t] ty #[a.eval x]).run P w = .ok (.int .i64 (ks.length : Int)) w := by
      simp [Builtin.len_, h2, run_underlying ht, MapKept.run_getObj_map q1, goInt, q2]
    exact ⟨_, by simp [execOp, resolve, invoke, builtin, hb], .i64 _⟩
theorem op_range (e : Nat) (ht : P.underlying t = some (.map kt et)) (hx : aev T x = some (.mp b)) (hk : H b = some k) (hc : k.c.ents = some (ks, vs, bs, clk)) :
    OpSem P T H ⟨d, .range t x, ty, ps, af, gd⟩ nm wr (.ptr nm 0) [(nm, some ⟨.iter b clk [] clk, e, true⟩)] := by
  intro E S n0 H2 a w hS hn _ _ _ hle hop hR hf K Q hK
  replace hk := hle b k hk
  obtain ⟨l, h1, h2⟩ := (hop x (by simp [Op.operands]) _ hx).mp_inv
  obtain ⟨l', s', g1, g2⟩ := hR.blk b k hk
  rw [h1] at g1; injection g1 with g1; injection g1 with e1 e2; subst e1; subst e2
  obtain ⟨es, q1, _⟩ := (g2.isMap hc).2
  have hfn := hf nm (Nat.le_refl _) (by omega)
  have hR2 := hR.allocO (hS _ hn) hfn ⟨.iter b clk [] clk, e, true⟩ (.mapIter (some l) clk #[] clk) 0 (.iter b clk [] clk rfl rfl ⟨l, (Emb.put_le hfn).1 _ _ h1, by show (w.heap.push _)[w.heap.size]? = _; simp⟩)
  have hrun : (execOp a.eval ⟨d, .range t x, ty, ps, af, gd⟩).run P w = .ok (.value (.pointer (some ⟨w.heap.size, 0, none⟩))) (w.alloc (.mapIter (some l) clk #[] clk)) := by
    simp [execOp, Instr.range, h2, run_underlying ht, MapKept.run_getObj_map q1]
  unfold Oper.wp
  rw [hrun]
  exact hK _ _ (E.put nm (w.heap.size, 0)) (fun b hb => Emb.put_other _ _ (fun e => by
    subst e
    rcases hb with hb | hb
    · simp [lk] at hb
    · exact hb ⟨Nat.le_refl _, by omega⟩)) (Emb.dx_refl _ _) (.ptr nm 0 _ _ (Emb.put_same _ _ _)) hR2 (Fr.alloc S w _)
theorem left_mem {es : Array MapEntry} {seen : List Nat} {e : MapEntry} (h : e ∈ (leftOf es seen.toArray).toList) : ∃ j : Nat, es[j]? = some e ∧ e.born ∉ seen := by
  simp only [leftOf, Array.toList_filter, List.mem_filter] at h
  obtain ⟨h1, h2⟩ := h
  obtain ⟨j, hj⟩ := List.mem_iff_getElem?.1 h1
  exact ⟨j, by simpa using hj, by simpa using h2⟩
theorem op_nextEnd {q e since last : Nat} {seen : List Nat} {ow : Bool} (hx : aev T x = some (.ptr q 0)) (hq : H q = some ⟨.iter b since seen last, e, ow⟩) (hk : H b = some k) (hc : k.c.ents = some (ks, vs, bs, clk)) (hsi : ∀ n ∈ bs, n < since) (hla : since ≤ last) (hend : ∀ n ∈ bs, n ∈ seen) :
    OpSem P T H ⟨d, .next x false, ty, ps, af, gd⟩ nm wr (.tup [.bool false]) [] :=
  .reads fun E S a w hop hR => by
    obtain ⟨l, s, h1, h2⟩ := (hop x mem1 _ hx).ptr_inv
    obtain ⟨l', s', g1, g2⟩ := hR.blk q _ hq
    rw [h1] at g1; injection g1 with g1; injection g1 with e1 e2; subst e1; subst e2
    obtain ⟨_, lm, i1, i2⟩ := g2.isIter rfl
    obtain ⟨m', s2, m1, m2⟩ := hR.blk b k hk
    rw [i1] at m1; injection m1 with m1; injection m1 with e1 e2; subst e1; subst e2
    obtain ⟨es, q1, q2, q3, q4, q5⟩ := (m2.isMap hc).2
    rcases run_next_at (P := P) w ty l lm since last seen.toArray es clk i2 q1 (fun n hn => by
      obtain ⟨j, hj⟩ := List.mem_iff_getElem?.1 hn
      exact hsi _ (List.mem_of_getElem? (q5 j n (by simpa using hj)).1)) hla with ⟨_, hr⟩ | ⟨en, hen, _⟩
    · refine ⟨.tuple #[.bool false], by simp [execOp, h2, hr], .tup _ _ rfl (fun i' x' y' hx' hy' => ?_)⟩
      match i', hx', hy' with
      | 0, hx', hy' => simp at hx' hy'; subst hx'; subst hy'; exact .bool _
      | n + 1, hx', _ => simp at hx'
    · obtain ⟨j, hj, hns⟩ := left_mem hen
      exact absurd (hend _ (List.mem_of_getElem? (q5 j en hj).1)) hns
theorem op_nextX {q e since last : Nat} {seen : List Nat} {kA vA : Nat → AV} (hx : aev T x = some (.ptr q 0)) (hq : H q = some ⟨.iter b since seen last, e, true⟩) (hk : H b = some k) (hc : k.c.ents = some (ks, vs, bs, clk)) (hsi : ∀ n ∈ bs, n < since) (hla : since ≤ last) (hsome : ∃ n ∈ bs, n ∉ seen)
    (hkA : ∀ (j : Nat) kv, ks[j]? = some kv → ∀ E, Rel E (kA j) kv) (hvA : ∀ (j : Nat) v, vs[j]? = some v → ∀ (E : Emb) y, Rel E v y → Rel E (vA j) y) :
    OpSemX P T H ⟨d, .next x false, ty, ps, af, gd⟩ nm wr { j : Nat // ∃ n, bs[j]? = some n ∧ n ∉ seen } (fun j => .tup [.bool true, kA j.1, vA j.1]) (fun j => [(q, some ⟨.iter b since (seen ++ [bs.getD j.1 0]) clk, e, true⟩)]) := by
  intro E S n0 H2 a w hS hn0 _ _ hwr hle hop hR hf K Q hK
  replace hq := hle q _ hq
  replace hk := hle b _ hk
  obtain ⟨l, s, h1, h2⟩ := (hop x mem1 _ hx).ptr_inv
  obtain ⟨l', s', g1, g2⟩ := hR.blk q _ hq
  rw [h1] at g1; injection g1 with g1; injection g1 with e1 e2; subst e1; subst e2
  obtain ⟨hs0, lm, i1, i2⟩ := g2.isIter rfl
  obtain ⟨m', s2, m1, m2⟩ := hR.blk b k hk
  rw [i1] at m1; injection m1 with m1; injection m1 with e1 e2; subst e1; subst e2
  obtain ⟨es, q1, q2, q3, q4, q5⟩ := (m2.isMap hc).2
  rcases run_next_at (P := P) w ty l lm since last seen.toArray es clk i2 q1 (fun n hn => by
    obtain ⟨j, hj⟩ := List.mem_iff_getElem?.1 hn
    exact hsi _ (List.mem_of_getElem? (q5 j n (by simpa using hj)).1)) hla with ⟨hz, _⟩ | ⟨en, hen, w1, hw1, hr⟩
  · obtain ⟨n, hn1, hn2⟩ := hsome
    obtain ⟨j, hj⟩ := List.mem_iff_getElem?.1 hn1
    have hjl : j < es.size := by rw [q2, ← q4]; exact (List.getElem?_eq_some_iff.1 hj).1
    have hb := (q5 j es[j] (Array.getElem?_eq_getElem hjl)).1
    rw [hj] at hb; injection hb with hb
    have : es[j] ∈ (leftOf es seen.toArray).toList := by
      simp only [leftOf, Array.toList_filter, List.mem_filter]
      exact ⟨by simp, by simpa [← hb] using hn2⟩
    rw [Array.eq_empty_of_size_eq_zero hz] at this
    cases this
  · obtain ⟨j, hj, hns⟩ := left_mem hen
    obtain ⟨r1, r2, xv, r3, r4⟩ := q5 j en hj
    have hbj : bs.getD j 0 = en.born := by rw [List.getD_eq_getElem?_getD, r1]; rfl
    have hw1h : w1.heap = w.heap := by rcases hw1 with rfl | rfl <;> rfl
    have hR1 : RH E S H2 w1 := hR.same fun _ _ => by rw [hw1h]
    have hF1 : Fr S w w1 := by
      rcases hw1 with rfl | rfl
      · exact Fr.refl _ _
      · exact (Fr.refl S w).drew
    unfold Oper.wp
    rw [show (execOp a.eval ⟨d, .next x false, ty, ps, af, gd⟩).run P w = .ok (.value (.tuple #[.bool true, en.key, en.val])) (setBlock w1 l (.mapIter (some lm) since (seen.toArray.push en.born) clk)) by simp [execOp, h2, hr]]
    have i2' : w1.heap[l]? = some (.mapIter (some lm) since seen.toArray last) := by rw [hw1h]; exact i2
    refine hK ⟨j, en.born, r1, hns⟩ _ _ E (fun _ _ => rfl) (Emb.dx_refl _ _) (.tup _ _ rfl (fun i' x' y' hx' hy' => ?_)) (hR1.turn hq rfl h1 _ _ (.iter b since (seen ++ [bs.getD j 0]) clk rfl hs0 ⟨lm, i1, ?_⟩)) (hF1.trans (Fr.setBlock w1 l _ (hR.own q _ l s hq rfl h1)))
    · match i', hx', hy' with
      | 0, hx', hy' => simp at hx' hy'; subst hx'; subst hy'; exact .bool _
      | 1, hx', hy' => simp at hx' hy'; subst hx'; subst hy'; exact hkA j _ r2 E
      | 2, hx', hy' => simp at hx' hy'; subst hx'; subst hy'; exact hvA j _ r3 E _ r4
      | n + 3, hx', _ => simp at hx'
    · rw [setBlock_same i2', hbj]; simp
theorem op_entry {q e since n : Nat} {seen : List Nat} {ow : Bool} {kA vA : AV} (hx : aev T x = some (.ptr q 0)) (hq : H q = some ⟨.iter b since (seen ++ [n]) clk, e, ow⟩) (hk : H b = some k) (hc : k.c.ents = some (ks, vs, bs, clk)) (hn : bs[i]? = some n) (huq : ∀ (j : Nat), bs[j]? = some n → j = i)
    (hkA : ∀ kv, ks[i]? = some kv → ∀ E, Rel E kA kv) (hvA : ∀ v, vs[i]? = some v → ∀ (E : Emb) y, Rel E v y → Rel E vA y) :
    OpSem P T H ⟨d, .entry x, ty, ps, af, gd⟩ nm wr (.tup [kA, vA]) [] :=
  .reads fun E S a w hop hR => by
    obtain ⟨l, s, h1, h2⟩ := (hop x mem1 _ hx).ptr_inv
    obtain ⟨l', s', g1, g2⟩ := hR.blk q _ hq
    rw [h1] at g1; injection g1 with g1; injection g1 with e1 e2; subst e1; subst e2
    obtain ⟨_, lm, i1, i2⟩ := g2.isIter rfl
    obtain ⟨m', s2, m1, m2⟩ := hR.blk b k hk
    rw [i1] at m1; injection m1 with m1; injection m1 with e1 e2; subst e1; subst e2
    obtain ⟨es, q1, q2, q3, q4, q5⟩ := (m2.isMap hc).2
    have hil : i < es.size := by rw [q2, ← q4]; exact (List.getElem?_eq_some_iff.1 hn).1
    obtain ⟨r1, r2, xv, r3, r4⟩ := q5 i es[i] (Array.getElem?_eq_getElem hil)
    have hbn : es[i].born = n := by rw [hn] at r1; injection r1 with r1; exact r1.symm
    have hf : es.find? (·.born == n) = some es[i] := by
      rw [Array.find?_eq_some_iff_getElem]
      refine ⟨by simpa using hbn, i, hil, rfl, fun j hj => ?_⟩
      have hjl : j < es.size := by omega
      have := (q5 j es[j] (Array.getElem?_eq_getElem hjl)).1
      simp only [Bool.not_eq_true', beq_eq_false_iff_ne, ne_eq]
      intro hh
      rw [hh] at this
      have := huq j this
      omega
    have hback : (seen ++ [n]).toArray.back? = some n := by simp
    have hr : (Instr.entry (.pointer (some ⟨l, 0, none⟩))).run P w = .ok (.tuple #[es[i].key, es[i].val]) w := by
      simp only [Instr.entry, getObj, Sem.run_bind, Sem.run, i2, q1, Result.andThen, hback, bne_self_eq_false, Bool.false_eq_true, if_false, hf]
      rfl
    refine ⟨.tuple #[es[i].key, es[i].val], by simp [execOp, h2, hr], .tup _ _ rfl (fun i' x' y' hx' hy' => ?_)⟩
    match i', hx', hy' with
    | 0, hx', hy' => simp at hx' hy'; subst hx'; subst hy'; exact hkA _ r2 E
    | 1, hx', hy' => simp at hx' hy'; subst hx'; subst hy'; exact hvA _ r3 E _ r4
    | n + 2, hx', _ => simp at hx'
end
end Go.Proofs.YticickigndgpcaaDoor
