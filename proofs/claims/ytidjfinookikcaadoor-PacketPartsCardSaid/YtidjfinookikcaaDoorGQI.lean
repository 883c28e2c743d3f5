/-
  Texts of this claim.
-/
import Derived.Laws.Build
import Derived.OwnWalk
import Derived.WalkKit
import Derived.LaidEql
import Derived.Stop.Asserts
import Derived.RowKitTokens
import Derived.Test.YtidjfinookikcaaDoorGQE
import Derived.Test.YtidjfinookikcaaDoorGQR
namespace Go.Proofs.YtidjfinookikcaaDoor
open Go.RowKit
/-- What is not known, then the cells. -/
def offC (o : Nat) (cs : List AV) : List AV := List.replicate o .hole ++ cs
/-- A cell that names no block. -/
def AV.flatV : AV → Bool
  | .u8 _ | .u32 _ | .u64 _ | .i64 _ | .bool _ | .str _ | .hole | .dsl _ => true
  | _ => false
theorem flat_ren {x : AV} (h : x.flatV = true) (f : Nat → Nat) : x.ren f = x := by cases x <;> first | rfl | cases h
theorem flat_names {x : AV} (h : x.flatV = true) : x.names = [] := by cases x <;> first | rfl | cases h
theorem offC_len (o : Nat) (cs : List AV) : (AV.agg (offC o cs)).len = o + cs.length := by
  show (offC o cs).length = _
  unfold offC
  rw [List.length_append, List.length_replicate]
theorem offC_nth {o i : Nat} {cs : List AV} {v : AV} (h : cs[i]? = some v) : (AV.agg (offC o cs)).nth (o + i) = some v := by
  show (offC o cs)[o + i]? = _
  unfold offC
  rw [List.getElem?_append_right (by rw [List.length_replicate]; omega), List.length_replicate, show o + i - o = i by omega, h]
theorem offC_flat {o : Nat} {cs : List AV} (h : cs.all AV.flatV = true) : (offC o cs).all AV.flatV = true := by
  unfold offC
  rw [List.all_append, h, Bool.and_true]
  exact List.all_eq_true.2 fun x hx => by rw [List.eq_of_mem_replicate hx]; rfl
theorem flat_list {l : List AV} (h : l.all AV.flatV = true) : (∀ f, AV.renL f l = l) ∧ AV.namesL l = [] := by
  induction l with
  | nil => exact ⟨fun _ => rfl, rfl⟩
  | cons x l ih =>
    rw [List.all_cons, Bool.and_eq_true] at h
    obtain ⟨h1, h2⟩ := ih h.2
    exact ⟨fun f => by show x.ren f :: AV.renL f l = _; rw [h1 f, flat_ren h.1], by show x.names ++ AV.namesL l = _; rw [h2, flat_names h.1]; rfl⟩
theorem offC_ren (f : Nat → Nat) (o : Nat) {cs : List AV} (h : cs.all AV.flatV = true) : (AV.agg (offC o cs)).ren f = AV.agg (offC o cs) := by
  show AV.agg (AV.renL f (offC o cs)) = _
  rw [(flat_list (offC_flat h)).1 f]
theorem offC_nm (L : List (Nat × Nat)) (o : Nat) {cs : List AV} (h : cs.all AV.flatV = true) : nmOk L (AV.agg (offC o cs)).names = true := by
  show nmOk L (AV.namesL (offC o cs)) = true
  rw [(flat_list (offC_flat h)).2]; rfl
/-- Rows of the elements of a list, one behind the other. -/
def rowsC {α : Type} (f : α → List AV) (l : List α) : List AV := l.flatMap f
section
variable {α : Type} {f : α → List AV} {z : Nat}
theorem rowsC_len (hz : ∀ a, (f a).length = z) (l : List α) : (rowsC f l).length = l.length * z := by
  induction l with
  | nil => simp [rowsC]
  | cons a l ih =>
    show (f a ++ rowsC f l).length = _
    rw [List.length_append, hz, ih, List.length_cons, Nat.add_mul]; omega
theorem rowsC_nth (hz : ∀ a, (f a).length = z) {l : List α} {i : Nat} {a : α} (hi : l[i]? = some a) {k : Nat} (hk : k < z) : (rowsC f l)[i * z + k]? = (f a)[k]? := by
  induction l generalizing i with
  | nil => simp at hi
  | cons b l ih =>
    show (f b ++ rowsC f l)[i * z + k]? = _
    cases i with
    | zero =>
      simp only [List.getElem?_cons_zero, Option.some.injEq] at hi
      subst hi
      rw [List.getElem?_append_left (by rw [hz]; omega), Nat.zero_mul, Nat.zero_add]
    | succ i =>
      rw [List.getElem?_cons_succ] at hi
      rw [List.getElem?_append_right (by rw [hz, Nat.add_mul]; omega), hz, show (i + 1) * z + k - z = i * z + k by rw [Nat.add_mul]; omega]
      exact ih hi
theorem rowsC_flat (h : ∀ a, (f a).all AV.flatV = true) (l : List α) : (rowsC f l).all AV.flatV = true := by
  induction l with
  | nil => rfl
  | cons a l ih =>
    show (f a ++ rowsC f l).all AV.flatV = true
    rw [List.all_append, h, ih]; rfl
theorem rows_at {o : Nat} (hz : ∀ a, (f a).length = z) {l : List α} {i : Nat} {a : α} (hi : l[i]? = some a) {k : Nat} {v : AV} (hk : (f a)[k]? = some v) : (AV.agg (offC o (rowsC f l))).nth (o + i * z + k) = some v := by
  have hk2 : k < z := by rw [← hz a]; exact (List.getElem?_eq_some_iff.1 hk).1
  rw [Nat.add_assoc]
  exact offC_nth ((rowsC_nth hz hi hk2).trans hk)
theorem rows_lt {o : Nat} (hz : ∀ a, (f a).length = z) {l : List α} {i k : Nat} (hi : i < l.length) (hk : k < z) : o + i * z + k < (AV.agg (offC o (rowsC f l))).len := by
  rw [offC_len, rowsC_len hz]
  have : (i + 1) * z ≤ l.length * z := Nat.mul_le_mul_right z hi
  rw [Nat.add_mul] at this; omega
/-- Some cells of an element's row. -/
theorem rows_part {o : Nat} (hz : ∀ a, (f a).length = z) {l : List α} {i : Nat} {a : α} (hi : l[i]? = some a) {k m : Nat} (hk : k + m ≤ z) : ((AV.agg (offC o (rowsC f l))).list.drop (o + i * z + k)).take m = ((f a).drop k).take m := by
  refine List.ext_getElem? fun j => ?_
  rw [List.getElem?_take, List.getElem?_take]
  by_cases hj : j < m
  · rw [if_pos hj, if_pos hj, List.getElem?_drop, List.getElem?_drop]
    show (offC o (rowsC f l))[_]? = _
    unfold offC
    rw [List.getElem?_append_right (by rw [List.length_replicate]; omega), List.length_replicate, show o + i * z + k + j - o = i * z + (k + j) by omega]
    exact rowsC_nth hz hi (by omega)
  · rw [if_neg hj, if_neg hj]
end
/-- A list of bytes as rows. -/
theorem rows_u8 (l : List UInt8) : rowsC (fun b => [AV.u8 b]) l = l.map .u8 := by
  induction l with
  | nil => rfl
  | cons a l ih => show AV.u8 a :: rowsC _ l = _; rw [ih]; rfl
theorem get_i {α : Type} {l : List α} {i : Nat} (d : α) (h : i < l.length) : l[i]? = some (l.getD i d) := by
  rw [List.getD_eq_getElem?_getD, List.getElem?_eq_getElem h]; rfl
end Go.Proofs.YtidjfinookikcaaDoor
namespace Go.Proofs.YtidjfinookikcaaDoor
open Go.RowKit
/-- A slice of a block that nobody owns, under a second name. -/
theorem Ev.twinS {P : Program} {nt : Nat} {c : Code} {T : List (Nat × AV)} {H : List (Nat × Option ABlk)} {nx : Nat} {post : Exit → St → Prop} {b m e t o n z : Nat} {k c' : AV} (ht : lk T t = some (.sl b o n z)) (hb : hget H b = some ⟨k, e, false⟩) (hc : c'.list = k.list.take m) (h : Ev P nt c ⟨(t, .sl nx o n z) :: T, (nx, some ⟨c', e, false⟩) :: H, nx + 8⟩ post) (hm1 : k.isMap = false := by first | rfl | assumption | exact AV.map_parts (by assumption)) (hm2 : c'.isMap = false := by first | rfl | assumption | exact AV.map_parts (by assumption)) : Ev P nt c ⟨T, H, nx⟩ post := by
  intro E S n0 a w hn hR
  obtain ⟨l, s, h1, h2⟩ := hR.rh.blkR hb hm1
  have hnx : E nx = none := hR.fr nx (Nat.le_refl _)
  have hle := Emb.put_le (E := E) (b := nx) (p := (l, s)) hnx
  have old : ∀ n k', hget H n = some k' → n ≠ nx := fun n k' hk e => by
    subst e; obtain ⟨l, s, h1, _⟩ := hR.rh.blk n k' hk; rw [hnx] at h1; cases h1
  have hup : ∀ n, hget ((nx, some ⟨c', e, false⟩) :: H) n = if n = nx then some ⟨c', e, false⟩ else hget H n := fun n => by
    have := upd_one nx (some ⟨c', e, false⟩) (hget H) n
    rw [upd_hget] at this
    exact this
  have hR2 : RS (E.put nx (l, s)) S n0 nt ⟨(t, .sl nx o n z) :: T, (nx, some ⟨c', e, false⟩) :: H, nx + 8⟩ a w := by
    refine ⟨fun t' u ht' => (by
      simp only [lk] at ht'
      split at ht'
      · rename_i e9
        injection ht' with ht'; subst ht'
        have e8 := Nat.eq_of_beq_eq_true e9
        subst e8
        have hv := hR.rt _ _ ht
        rcases hv.sl_inv with ⟨l2, s2, c2, g1, g2, g3, g4, g5⟩ | ⟨ad, g1, g5⟩
        · rw [h1] at g1; injection g1 with g1; injection g1 with e5 e6; subst e5; subst e6
          rw [g5]; exact .sl _ _ _ _ _ _ _ (Emb.put_same _ _ _) g2 g3 g4
        · subst g1; rw [g5]; exact .sl0 _ _ _ _
      · exact (hR.rt t' u ht').mono hle), hR.nt, hR.df, ⟨fun n k' hk => ?_, fun n n' k1 k2 q s1 s2 g1 g2 g3 g4 g5 => ?_, fun n k' q s1 g1 g2 g3 => ?_, fun a1 L1 s9 ha => ⟨(hR.rh.deep a1 L1 s9 ha).1, fun n k' s2 g1 g2 g3 => ?_⟩⟩, fun n hn' => ?_, fun g hg => ?_, hR.hS, hR.h0⟩
    rotate_left 3
    · rw [hup] at g1
      by_cases e1 : n = nx
      · rw [if_pos e1] at g1; injection g1 with g1; subst g1; cases g2
      · rw [if_neg e1] at g1
        rw [Emb.put_other _ _ e1] at g3
        exact (hR.rh.deep a1 L1 s9 ha).2 n k' s2 g1 g2 g3
    rotate_right 3
    · rw [hup] at hk
      split at hk
      · rename_i e1; subst e1; injection hk with hk; subst hk
        obtain ⟨arr, tq, fz, q1, q2, q3, q4, q5⟩ := h2
        refine ⟨l, s, Emb.put_same _ _ _, .row hm2 ⟨arr, tq, fz, q1, q2, ⟨⟨fun h => (by cases h), q3.1.z, fun _ h h' => ⟨(q3.1.f rfl h h').1, by rw [hc, List.length_take]; have h9 : k.list.length ≤ fz.2 := (q3.1.f rfl h h').2; omega⟩⟩, q3.2⟩, ?_, fun i x hx => ?_⟩⟩
        · rw [hc, List.length_take]; have : k.list.length ≤ s := q4; omega
        · rw [hc, List.getElem?_take] at hx
          split at hx
          · obtain ⟨p1, y, p2, p3⟩ := q5 i x hx
            exact ⟨p1, y, p2, p3.mono hle⟩
          · cases hx
      · obtain ⟨q, s1, g1, g2⟩ := hR.rh.blk n k' hk
        exact ⟨q, s1, hle.1 _ _ g1, g2.mono hle rfl⟩
    · rw [hup] at g1 g2
      by_cases e1 : n = nx
      · rw [if_pos e1] at g1; injection g1 with g1; subst g1; cases g3
      · rw [if_neg e1] at g1
        rw [Emb.put_other _ _ e1] at g4
        by_cases e2 : n' = nx
        · subst e2
          rw [Emb.put_same] at g5; injection g5 with g5; injection g5 with e3 e4; subst e3; subst e4
          have := hR.rh.inj n b k1 _ _ _ _ g1 hb g3 g4 h1
          subst this
          rw [hb] at g1; injection g1 with g1; subst g1; cases g3
        · rw [if_neg e2] at g2
          rw [Emb.put_other _ _ e2] at g5
          exact hR.rh.inj n n' k1 k2 q s1 s2 g1 g2 g3 g4 g5
    · rw [hup] at g1
      by_cases e1 : n = nx
      · rw [if_pos e1] at g1; injection g1 with g1; subst g1; cases g2
      · rw [if_neg e1] at g1
        rw [Emb.put_other _ _ e1] at g3
        exact hR.rh.own n k' q s1 g1 g2 g3
    · have : n ≠ nx := by have : nx + 8 ≤ n := hn'; omega
      rw [Emb.put_other _ _ this]; exact hR.fr n (by have : nx + 8 ≤ n := hn'; show nx ≤ n; omega)
    · have hg2 : g < nx := by have : 1000 ≤ nx := hn; omega
      obtain ⟨s1, q⟩ := hR.gl g hg
      exact ⟨s1, hle.1 _ _ q⟩
  exact wp_mono (h _ S n0 a w (by have : 1000 ≤ nx := hn; show 1000 ≤ nx + 8; omega) hR2) fun e a' w' hD => Done.trans ⟨fun b hb => Emb.put_other _ _ (by have : 1000 ≤ nx := hn; omega), Emb.dx_refl _ _⟩ (Fr.refl _ _) hD
section
variable {P : Program} {T : Nat → Option AV} {H : Hp} {nm : Nat} {wr : Bool} {d : Option Tmp} {ty t : TypeId} {ps : String} {af : Array Edge} {gd : Option (Nat × Bool)} {x y : Operand}
/-- The lowest bits of an integer. -/
theorem op_maskP {j : Int} {t' : TypeId} (k : Nat) (hk : k ≤ 32) (hx : aev T x = some (.i64 j)) (hy : aev T y = some (.i64 ((2 ^ k - 1 : Nat) : Int))) : OpSem P T H ⟨d, .binOp .and t x y t', ty, ps, af, gd⟩ nm wr (.i64 (j % ((2 ^ k : Nat) : Int))) [] :=
  op_bin hx hy fun E y1 y2 w h1 h2 => by
    rw [h1.i64_inv, h2.i64_inv]
    have hp : 2 ^ k ≤ 2 ^ 32 := Nat.pow_le_pow_right (by decide) hk
    have hp0 : 0 < 2 ^ k := Nat.pow_pos (by decide)
    refine ⟨.int .i64 (IntKind.i64.wrap ((BitVec.ofInt 64 j &&& BitVec.ofInt 64 ((2 ^ k - 1 : Nat) : Int)).toNat : Int)), rfl, ?_⟩
    have e : (BitVec.ofInt 64 j &&& BitVec.ofInt 64 ((2 ^ k - 1 : Nat) : Int)).toNat = (j % ((2 ^ k : Nat) : Int)).toNat := by
      rw [BitVec.toNat_and, BitVec.toNat_ofInt, BitVec.toNat_ofInt]
      rw [show (((2 ^ k - 1 : Nat) : Int) % ((2 ^ 64 : Nat) : Int)).toNat = 2 ^ k - 1 by omega, Nat.and_two_pow_sub_one_eq_mod]
      have hd : ((2 ^ k : Nat) : Int) ∣ ((2 ^ 64 : Nat) : Int) := Int.natCast_dvd_natCast.2 (Nat.pow_dvd_pow 2 (by omega))
      have h0 : 0 ≤ j % ((2 ^ 64 : Nat) : Int) := Int.emod_nonneg _ (by decide)
      have h3 : (((j % ((2 ^ 64 : Nat) : Int)).toNat % 2 ^ k : Nat) : Int) = j % ((2 ^ k : Nat) : Int) := by
        rw [Int.natCast_emod, Int.toNat_of_nonneg h0, Int.emod_emod_of_dvd _ hd]
      omega
    have hb0 : 0 ≤ j % ((2 ^ k : Nat) : Int) := Int.emod_nonneg _ (by omega)
    have hb1 : j % ((2 ^ k : Nat) : Int) < ((2 ^ k : Nat) : Int) := Int.emod_lt_of_pos _ (by omega)
    rw [e, Int.toNat_of_nonneg hb0, wrap_in ⟨by omega, by omega⟩]
    exact .i64 _
end
end Go.Proofs.YtidjfinookikcaaDoor
namespace Go.Proofs.YtidjfinookikcaaDoor
open Go.RowKit
theorem op_makeIface {P : Program} {T : Nat → Option AV} {H : Hp} {nm : Nat} {wr : Bool} {d : Option Tmp} {ty t : TypeId} {ps : String} {af : Array Edge} {gd : Option (Nat × Bool)} {x : Operand} {u : AV} (hc : P.concrete t = true) (hx : aev T x = some u) :
    OpSem P T H ⟨d, .makeInterface t x, ty, ps, af, gd⟩ nm wr (.ifc t u) [] :=
  .quiet fun E a w h => ⟨.iface t (a.eval x), by simp [execOp, run_makeInterface _ _ _ hc], .ifc _ _ _ (h x mem1 _ hx)⟩
theorem results_tmp4 {fn : Func} {t u v q : Tmp} (h : fn.results = #[.tmp t, .tmp u, .tmp v, .tmp q]) (tmps : Array Value) (P : Program) (w : World) :
    (results fn tmps).run P w = .ok (.tuple #[tmps.getD t undef, tmps.getD u undef, tmps.getD v undef, tmps.getD q undef]) w := by
  simp [results, h]
theorem ret4v {P : Program} {nt : Nat} {st : St} {fn : Func} {t u q p : Tmp} {v1 v2 v3 v4 v1' v2' v3' v4' : AV} {H1 : List (Nat × Option ABlk)} {e : Exit} (hr : fn.results = #[.tmp t, .tmp u, .tmp q, .tmp p]) (he : e = .ret ∨ e = .normal) (hv : lk st.T t = some v1') (hu : lk st.T u = some v2') (hq : lk st.T q = some v3') (hp : lk st.T p = some v4') (h1 : v1' = v1) (h2 : v2' = v2) (h3 : v3' = v3) (h4 : v4' = v4) (hH : HSub (hget st.H) H1) : RetOk P fn nt (.tup [v1, v2, v3, v4]) H1 e st := by
  subst h1; subst h2; subst h3; subst h4
  exact ⟨he, hH.spec, fun _ _ _ a w hR => ⟨_, results_tmp4 hr a.tmps P w, .tup _ _ rfl fun i x y hx hy => by
    match i, hx, hy with
    | 0, hx, hy => simp at hx hy; subst hx; subst hy; have := hR.rt t v1' hv; simpa using this
    | 1, hx, hy => simp at hx hy; subst hx; subst hy; have := hR.rt u v2' hu; simpa using this
    | 2, hx, hy => simp at hx hy; subst hx; subst hy; have := hR.rt q v3' hq; simpa using this
    | 3, hx, hy => simp at hx hy; subst hx; subst hy; have := hR.rt p v4' hp; simpa using this
    | i + 4, hx, _ => simp at hx⟩⟩
end Go.Proofs.YtidjfinookikcaaDoor
namespace Go.Proofs.YtidjfinookikcaaDoor
open Go.RowKit
section
variable {P : Program} {T : Nat → Option AV} {H : Hp} {nm : Nat} {wr : Bool} {d : Option Tmp} {ty t t2 e : TypeId} {ps : String} {af : Array Edge} {gd : Option (Nat × Bool)} {x : Operand} {b o : Nat} {k : ABlk}
/-- The bytes of a slice of whatever block, as a string. -/
theorem op_bytes_strL {l : List UInt8} (hs : P.underlying t = some (.slice e)) (he : P.underlying e = some (.int .u8)) (hd : P.underlying t2 = some .string) (hx : aev T x = some (.sl b o l.length 1)) (hk : H b = some k) (h0 : 0 < l.length) (hc : (k.c.list.drop o).take l.length = l.map .u8) :
    OpSem P T H ⟨d, .convert t t2 x, ty, ps, af, gd⟩ nm wr (.str l) [] :=
  .reads fun E S a w h hR => by
    obtain ⟨l', s', h3, h4⟩ := hR.blkR hk (by cases h8 : k.c <;> first | rfl | (rw [h8] at hc; simp [AV.list, AV.parts] at hc; first | omega | (rw [hc] at h0; cases h0) | (rw [← hc] at h0; cases h0) | simp_all))
    have hcell : ∀ j (hj : j < l.length), w.cell? ⟨l', o + j, none⟩ = some (.int .u8 ((l[j]).toNat : Int)) := fun j hj => by
      have h7 : k.c.list[o + j]? = some (.u8 l[j]) := by
        have := congrArg (fun z => z[j]?) hc
        simp only [List.getElem?_take, List.getElem?_drop, if_pos hj, List.getElem?_map, List.getElem?_eq_getElem hj, Option.map_some] at this
        exact this
      obtain ⟨_, y, h5, h6⟩ := h4.cell h7
      rw [h5, h6.u8_inv]
    rcases (h x mem1 _ hx).sl_inv with ⟨lc, s, c, g1, g2, g3, g4, g5⟩ | ⟨ad, h9, g5⟩
    · rw [g1] at h3; injection h3 with h3; injection h3 with e1 _; subst e1
      have := run_convert_bytes_back (P := P) w t t2 e ⟨lc, o, none⟩ c l hs he hd (fun j hj => by
        rw [add_at, hcell j hj])
      exact ⟨_, by simp [execOp, g5, this], .str _⟩
    · omega
end
/-- A payload, or a key from which on it is sealed. -/
structure ItemV where
  lock : Bool
  key : List UInt8
  s : List UInt8
  hk : key.length = 32
  hs : s.length ≤ maxLen
instance : Inhabited ItemV := ⟨⟨false, List.replicate 32 0, [], rfl, Nat.zero_le _⟩⟩
def itemC (a : ItemV) : List AV := .bool a.lock :: (kC a.key ++ [.str a.s])
theorem item_len (a : ItemV) : (itemC a).length = 34 := rfl
theorem item_flat (a : ItemV) : (itemC a).all AV.flatV = true := rfl
theorem item_key {o i : Nat} {l : List ItemV} {a : ItemV} (h : l[i]? = some a) : ((AV.agg (offC o (rowsC itemC l))).list.drop (o + i * 34 + 1)).take 32 = a.key.map AV.u8 := by
  rw [rows_part item_len h (by decide), ← kC_eq a.hk]; rfl
theorem item_lt {o i k : Nat} {l : List ItemV} (hi : i < l.length) (hk : k < 34) : o + i * 34 + k < (AV.agg (offC o (rowsC itemC l))).len := rows_lt item_len hi hk
def ksP (b : Bool) (key : List UInt8) : List UInt8 := match b with
  | true => key
  | false => []
theorem ofI64_succ (n : Nat) : ofI64 (n : Int) + 1 = ofI64 ((n + 1 : Nat) : Int) := by
  apply UInt64.toNat_inj.1
  have h1 := ofI64_toNat (n : Int)
  have h2 := ofI64_toNat ((n + 1 : Nat) : Int)
  rw [UInt64.toNat_add, show (1 : UInt64).toNat = 1 from rfl]
  omega
end Go.Proofs.YtidjfinookikcaaDoor
namespace Go.Proofs.YtidjfinookikcaaDoor
open Go.RowKit Go.Extern.Stop Go.Stop Go.Extern
/-- Comparable of a type. -/
def isCmp : Array Value → Sem Value := Extern.ReflectliteType.method fun t => do _root_.Go.Extern.Rtype.noPackHeld "Comparable" t; pure (.bool (← typeInfo t).comparable)
theorem isComparable (w : World) : (isCmp #[.agg #[.pointer (some ⟨6, 131, none⟩)]]).run Tryd.prog w = .ok (.bool true) w := by kernel_rfl
theorem isComp : (Tryd.prog.info? 131).map (·.comparable) = some true := by kernel_rfl
theorem isSize : (Tryd.prog.info? 145).map (·.size) = some 1 := by kernel_rfl
end Go.Proofs.YtidjfinookikcaaDoor
namespace Go.Proofs.YtidjfinookikcaaDoor
open Go.RowKit
theorem below_of {w w' : World} (h : w' = w) : BelowD w w' := .of_eq h
end Go.Proofs.YtidjfinookikcaaDoor
