/-
  Texts of this claim.
-/
import Derived.Lib.BufferRead
import Derived.Test.YtdhpfkojodgadaaDoorGX1
import Derived.Test.YtdhpfkojodgadaaDoorGW1
namespace Go.Proofs.YtdhpfkojodgadaaDoor
open Go.RowKit
/-- Bytes, and cells of which nothing is known. -/
def bufC (l : List UInt8) (C : Nat) : AV := .agg (l.map .u8 ++ List.replicate (C - l.length) .hole)
theorem bufC_list (l : List UInt8) (C : Nat) : (bufC l C).list = l.map .u8 ++ List.replicate (C - l.length) .hole := rfl
theorem names_u8 (l : List UInt8) (m : Nat) : AV.namesL (l.map AV.u8 ++ List.replicate m AV.hole) = [] := by
  induction l with
  | nil => induction m with
    | zero => rfl
    | succ m ih => show AV.namesL (AV.hole :: List.replicate m AV.hole) = []; exact ih
  | cons a l ih => exact ih
theorem ren_u8 (r : Nat → Nat) (l : List UInt8) (m : Nat) : AV.renL r (l.map AV.u8 ++ List.replicate m AV.hole) = l.map AV.u8 ++ List.replicate m AV.hole := by
  rw [renL_eq, List.map_append, List.map_map, List.map_replicate]; rfl
theorem bufC_ren (r : Nat → Nat) (l : List UInt8) (C : Nat) : (bufC l C).ren r = bufC l C := congrArg AV.agg (ren_u8 r l _)
theorem bufC_names (l : List UInt8) (C : Nat) : (bufC l C).names = [] := names_u8 l _
theorem bufC_nmC (L : List (Nat × Nat)) (l : List UInt8) (C : Nat) : nmOkC L (bufC l C).names = true := by rw [bufC_names]; rfl
theorem bufC_nm (L : List (Nat × Nat)) (l : List UInt8) (C : Nat) : nmOk L (bufC l C).names = true := by rw [bufC_names]; rfl
theorem bufC_nmF (L N : List (Nat × Nat)) (l : List UInt8) (C : Nat) : nmOkF L N (bufC l C).names = true := by rw [bufC_names]; rfl
theorem bufC_len {l : List UInt8} {C : Nat} (h : l.length ≤ C) : (bufC l C).len = C := by
  show (l.map AV.u8 ++ List.replicate (C - l.length) AV.hole).length = C
  simp; omega
theorem bufC_part {l : List UInt8} {C o n : Nat} (h : o + n ≤ l.length) : ((bufC l C).list.drop o).take n = ((l.drop o).take n).map .u8 := by
  rw [bufC_list, List.drop_append_of_le_length (by simp; omega), List.take_append_of_le_length (by simp; omega)]
  simp [List.map_take, List.map_drop]
theorem bufC_write {l : List UInt8} {C m : Nat} (s : List UInt8) (hm : m ≤ l.length) (hC : l.length ≤ C) (hs : m + s.length ≤ C) :
    (bufC (wrB l m s) C).list = (bufC l C).list.take m ++ (s.map AV.u8).take s.length ++ (bufC l C).list.drop (m + s.length) := by
  have e1 : (s.map AV.u8).take s.length = s.map AV.u8 := List.take_of_length_le (by simp)
  rw [e1, bufC_list, bufC_list, List.take_append_of_le_length (by simp; omega), wrB]
  simp only [List.map_append, List.map_take, List.map_drop, List.append_assoc]
  congr 2
  rw [List.drop_append, List.drop_replicate]
  congr 1
  simp only [List.length_append, List.length_take, List.length_drop, List.length_map]
  congr 1; omega
theorem wrB_len {l : List UInt8} {m : Nat} (s : List UInt8) (hm : m ≤ l.length) : (wrB l m s).length = max l.length (m + s.length) := by
  unfold wrB; simp; omega
theorem wrB_live {l : List UInt8} {m o : Nat} (s : List UInt8) (hm : m ≤ l.length) (ho : o ≤ m) : ((wrB l m s).take (m + s.length)).drop o = (l.take m).drop o ++ s := by
  unfold wrB
  have h1 : (l.take m ++ s).length = m + s.length := by simp; omega
  rw [List.take_append_of_le_length (by omega), List.take_of_length_le (by omega), List.drop_append_of_le_length (by simp; omega)]
/-- bytes moved to the front. -/
def mvB (l : List UInt8) (o L : Nat) : List UInt8 := (l.take L).drop o ++ l.drop (L - o)
theorem mvB_len {l : List UInt8} {o L : Nat} (h1 : o ≤ L) (h2 : L ≤ l.length) : (mvB l o L).length = l.length := by
  unfold mvB; simp; omega
theorem mvB_live {l : List UInt8} {o L : Nat} (h1 : o ≤ L) (h2 : L ≤ l.length) : (mvB l o L).take (L - o) = (l.take L).drop o := by
  unfold mvB
  rw [List.take_append_of_le_length (by simp; omega), List.take_of_length_le (by simp; omega)]
theorem take_drop_comm (l : List UInt8) (o L : Nat) : (l.take L).drop o = (l.drop o).take (L - o) := by rw [List.drop_take]
theorem bufC_move {l : List UInt8} {C o L : Nat} (h1 : o ≤ L) (h2 : L ≤ l.length) (_h3 : l.length ≤ C) :
    (bufC (mvB l o L) C).list = (bufC l C).list.take 0 ++ (((l.drop o).take (L - o)).map AV.u8).take (L - o) ++ (bufC l C).list.drop (0 + (L - o)) := by
  have e1 : (((l.drop o).take (L - o)).map AV.u8).take (L - o) = ((l.drop o).take (L - o)).map AV.u8 := List.take_of_length_le (by simp; omega)
  rw [e1, bufC_list, bufC_list, mvB_len h1 h2, List.take_zero, List.nil_append, Nat.zero_add, List.drop_append_of_le_length (by simp; omega), mvB, take_drop_comm]
  simp [List.map_take, List.map_drop, List.append_assoc]
section
variable {P : Program} {T : Nat → Option AV} {H : Hp} {nm : Nat} {wr : Bool} {d : Option Tmp} {ty t t2 e : TypeId} {ps : String} {af : Array Edge} {gd : Option (Nat × Bool)} {x y : Operand} {b o n m : Nat} {k : ABlk} {l : List UInt8}
theorem srcs_rng (hy : aev T y = some (.sl b o m 1)) (hk : H b = some k) (hl : l.length = m) (hc : (k.c.list.drop o).take m = l.map .u8) : Srcs P T H y 1 m (l.map .u8) := by
  refine ⟨by simp [hl], fun E S a w hop hR => ?_⟩
  obtain ⟨l', s', h3, arr, tq, fz, g1, g2, g3, g4, g5⟩ := hR.blk b k hk
  rcases (hop _ hy).sl_inv with ⟨lc, s, c, q1, q2, q3, q4, q5⟩ | ⟨ad, h0, q5⟩
  · rw [q1] at h3; injection h3 with h3; injection h3 with e1 e2; subst e1; subst e2
    refine ⟨(arr.toList.drop o).take (m * 1), by simp; omega, fun i q hq => ?_, fun w' hw => ⟨by rw [q5]; rfl, fun r hr => ?_⟩⟩
    · obtain ⟨u, hu, rfl⟩ := get_map_some hq
      have hi : i < m := by rw [← hl]; exact (List.getElem?_eq_some_iff.1 hu).1
      rw [← hc, List.getElem?_take, if_pos hi, List.getElem?_drop] at hq
      obtain ⟨p1, yv, p2, p3⟩ := g5 (o + i) _ hq
      refine ⟨rfl, yv, ?_, p3⟩
      rw [List.getElem?_take, if_pos (by omega), List.getElem?_drop]
      simpa using p2
    · rw [q5]
      have hrz : r * 1 ≤ m * 1 := Nat.mul_le_mul_right _ hr
      have hlen2 : (((arr.toList.drop o).take (m * 1)).take (r * 1)).length = r * 1 := by simp; omega
      exact run_firstCells_some (P := P) w' 1 r ⟨lc, o, none⟩ m c _ hlen2 (fun j v hj => by
        rw [add_at, World.cell?_of_block (w := w) (a := ⟨lc, o + j, none⟩) (by rw [hw]), cell_of_row w lc (o + j) arr tq fz g1]
        rw [List.getElem?_take] at hj
        split at hj
        · rw [List.getElem?_take] at hj
          split at hj
          · rw [List.getElem?_drop] at hj; simpa using hj
          · cases hj
        · cases hj)
  · subst h0
    have hl0 : l = [] := List.eq_nil_of_length_eq_zero hl
    subst hl0
    refine ⟨[], by simp, fun i q hq => by simp at hq, fun w' hw => ⟨by rw [q5]; rfl, fun r hr => ?_⟩⟩
    have hr0 : r = 0 := by omega
    subst hr0
    rw [q5]
    cases ad with
    | none => simp [Builtin.firstCells]
    | some ad =>
      have := run_firstCells_some (P := P) w' 1 0 ad 0 0 [] (by simp) (fun j v hj => by cases hj)
      simpa using this
/-- string(bytes) of a part of a row. -/
theorem op_bytes_strR (hs : P.underlying t = some (.slice e)) (he : P.underlying e = some (.int .u8)) (hd : P.underlying t2 = some .string) (hx : aev T x = some (.sl b o n 1)) (hk : H b = some k) (hl : l.length = n) (hc : (k.c.list.drop o).take n = l.map .u8) :
    OpSem P T H ⟨d, .convert t t2 x, ty, ps, af, gd⟩ nm wr (.str l) [] :=
  .reads fun E S a w h hR => by
    obtain ⟨l', s', h3, h4⟩ := hR.blk b k hk
    have hcell : ∀ i (hi : i < l.length), w.cell? ⟨l', o + i, none⟩ = some (.int .u8 (l[i].toNat : Int)) := fun i hi => by
      have hq : k.c.list[o + i]? = some (.u8 l[i]) := by
        rw [← List.getElem?_drop, ← List.getElem?_take_of_lt (show i < n by omega), hc]
        simp [hi]
      obtain ⟨_, y, h5, h6⟩ := h4.cell hq
      rw [h5, h6.u8_inv]
    rcases (h x mem1 _ hx).sl_inv with ⟨lc, s, c, g1, g2, g3, g4, g5⟩ | ⟨ad, h0, g5⟩
    · rw [g1] at h3; injection h3 with h3; injection h3 with e1 _; subst e1
      have := run_convert_bytes_back (P := P) w t t2 e ⟨lc, o, none⟩ c l hs he hd (fun j hj => by rw [add_at, hcell _ hj])
      rw [hl] at this
      exact ⟨_, by simp [execOp, g5, this], .str _⟩
    · subst h0
      have hl0 : l = [] := List.eq_nil_of_length_eq_zero hl
      subst hl0
      cases ad with
      | some ad =>
        have := run_convert_bytes_back (P := P) w t t2 e ad 0 [] hs he hd (fun j hj => by simp at hj)
        exact ⟨_, by simp [execOp, g5, show (convert t t2 (.slice (some ad) 0 0)).run P w = .ok (.string ⟨#[]⟩) w from this], .str _⟩
      | none =>
        exact ⟨_, by simp [execOp, g5, Lib.run_convert_nil_bytes w t t2 e 0 hs he hd], .str _⟩
end
/-- The capacity of a slice that lies in a block's cell becomes known. -/
theorem Ev.openK {P : Program} {nt : Nat} {c : Code} {T : List (Nat × AV)} {H : List (Nat × Option ABlk)} {nx : Nat} {post : Exit → St → Prop} {B i b n m eB : Nat} {ob : Bool} {cs : List AV} {k : ABlk} (c2 : Nat → AV)
    (hB : hget H B = some ⟨.agg cs, eB, ob⟩) (hi : cs[i]? = some (.slk b 0 n m false)) (hb : hget H b = some k) (hne : B ≠ b) (hown : k.own = true) (hc2 : ∀ C, m ≤ C → (c2 C).list = k.c.list ++ List.replicate (C - k.c.list.length) .hole)
    (hm : k.c.list.length ≤ m) (h : ∀ C, m ≤ C → C ≤ maxLen → Ev P nt c ⟨T, (B, some ⟨.agg (cs.set i (.slk b 0 n C true)), eB, ob⟩) :: (b, some ⟨c2 C, k.elem, true⟩) :: H, nx⟩ post) : Ev P nt c ⟨T, H, nx⟩ post := by
  intro E S n0 a w hn hR
  obtain ⟨l, s, h1, arr, tq, fz, g1, g2, g3, g4, g5⟩ := hR.rh.blk B _ hB
  obtain ⟨p1, y, p2, p3⟩ := g5 i _ hi
  obtain ⟨lb, sb, C, q1, q2, q3, q4, q5, q6, q7⟩ := p3.slk_inv
  obtain ⟨lb', sb', f1, f2⟩ := hR.rh.blk b k hb
  rw [q1] at f1; injection f1 with f1; injection f1 with f3 f4; subst f3; subst f4
  have hup : ∀ q, hget ((B, some (⟨.agg (cs.set i (.slk b 0 n C true)), eB, ob⟩ : ABlk)) :: (b, some ⟨c2 C, k.elem, true⟩) :: H) q = if q = B then some ⟨.agg (cs.set i (.slk b 0 n C true)), eB, ob⟩ else if q = b then some ⟨c2 C, k.elem, true⟩ else hget H q := fun q => by
    have e1 := upd_one B (some (⟨.agg (cs.set i (.slk b 0 n C true)), eB, ob⟩ : ABlk)) (hget ((b, some (⟨c2 C, k.elem, true⟩ : ABlk)) :: H)) q
    rw [upd_hget] at e1
    have e2 := upd_one b (some (⟨c2 C, k.elem, true⟩ : ABlk)) (hget H) q
    rw [upd_hget] at e2
    refine e1.trans ?_
    split
    · rfl
    · exact e2
  have old : ∀ q k', hget ((B, some (⟨.agg (cs.set i (.slk b 0 n C true)), eB, ob⟩ : ABlk)) :: (b, some ⟨c2 C, k.elem, true⟩) :: H) q = some k' → ∃ k0, hget H q = some k0 ∧ k0.own = k'.own := fun q k' hk => by
    rw [hup] at hk
    split at hk
    · rename_i e; subst e; injection hk with hk; subst hk; exact ⟨_, hB, rfl⟩
    · split at hk
      · rename_i e; subst e; injection hk with hk; subst hk; exact ⟨_, hb, hown⟩
      · exact ⟨_, hk, rfl⟩
  refine h C q3 q5 E S n0 a w hn ⟨hR.rt, hR.nt, hR.df, ⟨fun q k' hk => ?_, fun q q' k1 k2 p s1 s2 k3 k4 k5 k6 k7 => ?_, fun q k1 p s1 k3 k4 k5 => ?_⟩, hR.fr, hR.gl, hR.hS, hR.h0⟩
  · rw [hup] at hk
    split at hk
    · rename_i e; subst e; injection hk with hk; subst hk
      refine ⟨l, s, h1, arr, tq, fz, g1, g2, ⟨⟨g3.1.w, g3.1.z, fun h h' h'' => by
        have := g3.1.f h h' h''
        refine ⟨this.1, ?_⟩
        have e : (cs.set i (.slk b 0 n C true)).length = cs.length := List.length_set
        show (cs.set i (.slk b 0 n C true)).length ≤ _
        rw [e]; exact this.2⟩, g3.2⟩, ?_, fun j x hx => ?_⟩
      · show (cs.set i (.slk b 0 n C true)).length ≤ s
        rw [List.length_set]; exact g4
      · have hx' : (cs.set i (.slk b 0 n C true))[j]? = some x := hx
        rw [List.getElem?_set] at hx'
        split at hx'
        · rename_i e; subst e
          split at hx'
          · injection hx' with hx'; subst hx'
            exact ⟨rfl, y, p2, by rw [q7]; exact .slk _ _ _ _ _ _ _ _ q1 (by omega) (Nat.le_refl _) (fun _ => rfl) q5 q6⟩
          · cases hx'
        · exact g5 j x hx'
    · split at hk
      · rename_i e; subst e; injection hk with hk; subst hk
        obtain ⟨arr', tq', fz', r1, r2, r3, r4, r5⟩ := f2
        refine ⟨lb, sb, q1, arr', tq', fz', r1, r2, ⟨⟨fun _ => r3.1.w hown, r3.1.z, fun h => by cases h⟩, ?_⟩, ?_, fun j x hx => ?_⟩
        · rcases r3.2 with h | ⟨h, _⟩ | h
          · exact .inl h
          · exact .inr (.inl ⟨h, .inl rfl⟩)
          · exact .inr (.inr h)
        · show (c2 C).list.length ≤ sb
          rw [hc2 C q3, List.length_append, List.length_replicate]; omega
        · have hx' : (c2 C).list[j]? = some x := hx
          rw [hc2 C q3] at hx'
          by_cases hj : j < k.c.list.length
          · rw [List.getElem?_append_left hj] at hx'
            exact r5 j x hx'
          · rw [List.getElem?_append_right (by omega), List.getElem?_replicate] at hx'
            split at hx'
            · injection hx' with hx'; subst hx'
              have hj2 : j < arr'.size := by omega
              exact ⟨rfl, arr'[j], Array.getElem?_eq_getElem hj2, .hole _⟩
            · cases hx'
      · exact hR.rh.blk q k' hk
  · obtain ⟨k1', u1, u2⟩ := old _ _ k3
    obtain ⟨k2', u3, u4⟩ := old _ _ k4
    exact hR.rh.inj q q' k1' k2' p s1 s2 u1 u3 (u2.trans k5) k6 k7
  · obtain ⟨k1', u1, u2⟩ := old _ _ k3
    exact hR.rh.own q k1' p s1 u1 (u2.trans k4) k5
/-- growSlice. -/
theorem growSlice_ev (l : List UInt8) (C L o n : Nat) (ho : o ≤ L) (hL : L ≤ l.length) (hlC : l.length ≤ C) (hC : C ≤ 1000000000) (hn : 1 ≤ n) (hlim : L - o + n ≤ 1000000000) :
    Meets Tryd.prog 34 [.slk 501 o (L - o) (C - o) true, .i64 (n : Int)] [(501, some ⟨bufC l C, 5, false⟩)] (.slk 1000 0 (L - o) (max (L - o + n) (2 * (C - o))) false) [(1000, some ⟨.aggB ((l.take L).drop o ++ List.replicate (max (L - o + n) (2 * (C - o)) - (L - o)) 0), 5, true⟩)] := by
  intro E S n0 vals w hg hfr hl hr hR hS h0
  obtain ⟨a, a2, rfl, ha, ha2⟩ := args2 hl hr
  obtain ⟨l', s, c', q1, q2, q3, q4, q5, q6, q7⟩ := ha.slk_inv
  obtain rfl := q4 rfl
  rw [q7, ha2.i64_inv]
  obtain ⟨l2, s2, f1, arr, tq, fz, g1, g2, g3, g4, g5⟩ := hR.blk 501 _ rfl
  rw [q1] at f1; injection f1 with f1; injection f1 with f3 f4; subst f3; subst f4
  have htq : tq = 5 := g3.2.is (show (5 : Nat) ≠ 1000000 by decide) (show (5 : Nat) < 2000000 by decide)
  subst htq
  have hsz : C ≤ s := by have := g4; rw [show (ABlk.c ⟨bufC l C, 5, false⟩).list.length = C from (len_list _).trans (bufC_len hlC)] at this; exact this
  have hcell : ∀ i, i < l.length → arr.toList[i]? = some (.int .u8 ((l.getD i 0).toNat : Int)) := fun i hi => by
    have hq : (bufC l C).list[i]? = some (.u8 (l.getD i 0)) := by
      rw [bufC_list, List.getElem?_append_left (by simpa using hi)]
      exact map_nth hi
    obtain ⟨_, yv, p2, p3⟩ := g5 i _ hq
    rw [Array.getElem?_toList, p2, p3.u8_inv]
  have hpart : (arr.toList.drop o).take (L - o) = ((l.take L).drop o).map fun u : UInt8 => Value.int .u8 (u.toNat : Int) := by
    refine List.ext_getElem? fun j => ?_
    rw [List.getElem?_take, List.getElem?_map, List.getElem?_drop, List.getElem?_drop, List.getElem?_take]
    by_cases hj : j < L - o
    · rw [if_pos hj, hcell _ (by omega), if_pos (by omega), List.getD_eq_getElem?_getD, List.getElem?_eq_getElem (by omega)]; rfl
    · rw [if_neg hj, if_neg (by omega)]; rfl
  refine (growSlice_part l' o (L - o) (C - o) n arr fz w g1 (by omega) q2 hn hlim (by omega) (fun v hv => by
    rw [hpart] at hv
    obtain ⟨u, _, rfl⟩ := List.mem_map.1 hv
    rfl)).mono fun e w' hh => ?_
  obtain ⟨cap2, cells, he, hrow, hcs, hcl, hge, hle, hb⟩ := hh
  rw [hpart] at hcl
  refine ⟨_, E.put 1000 (w.heap.size, cells.size), he, fun b hb => Emb.put_other _ _ (by omega), .slk _ _ _ _ _ _ _ _ (Emb.put_same _ _ _) (by omega) hge (fun h => by cases h) hle (by omega), ⟨fun b k hk => ?_, fun b b' k k' l1 s1 s2 k1 k2 k3 k4 k5 => ?_, fun b k l1 s1 k1 k2 k3 => ?_⟩, ⟨hb.os, hb.tape, hb.output, hb.size, fun k hk _ => hb.block k hk⟩⟩
  · have hm := hget_mem hk
    simp only [List.mem_singleton, Prod.mk.injEq, Option.some.injEq] at hm
    obtain ⟨rfl, rfl⟩ := hm
    refine ⟨w.heap.size, cells.size, Emb.put_same _ _ _, cells, 5, (0, 0), hrow, rfl, ⟨FzOk.zero _ _, .inr (.inl ⟨rfl, .inl rfl⟩)⟩, ?_, fun i x hx => ?_⟩
    · show (((l.take L).drop o ++ List.replicate _ (0 : UInt8)).map AV.u8).length ≤ _
      simp; omega
    · obtain ⟨u, hu, rfl⟩ := get_map_some hx
      refine ⟨rfl, .int .u8 (u.toNat : Int), ?_, .u8 _⟩
      rw [← Array.getElem?_toList, hcl]
      by_cases hi : i < L - o
      · rw [List.getElem?_append_left (by simp; omega)] at hu ⊢
        rw [List.getElem?_map, hu]; rfl
      · rw [List.getElem?_append_right (by simp; omega), List.getElem?_replicate] at hu
        split at hu
        · rename_i h9
          injection hu with hu; subst hu
          rw [List.getElem?_append_right (by simp; omega), List.getElem?_replicate, if_pos (by simp at h9 ⊢; omega)]; rfl
        · cases hu
  · have e1 := (List.mem_singleton.1 (hget_mem k1)); have e2 := (List.mem_singleton.1 (hget_mem k2))
    injection e1 with e1; injection e2 with e2
    rw [e1, e2]
  · have e1 := (List.mem_singleton.1 (hget_mem k1))
    injection e1 with e1
    subst e1
    rw [Emb.put_same] at k3; injection k3 with k3; injection k3 with k3
    subst k3
    exact hS _ h0
end Go.Proofs.YtdhpfkojodgadaaDoor
