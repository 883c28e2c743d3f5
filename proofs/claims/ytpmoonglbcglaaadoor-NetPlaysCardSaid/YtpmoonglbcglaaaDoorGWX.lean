/-
  Texts of this claim.
-/
import Derived.Lib.AppendZeros
import Derived.Laws.CopyRow
import Derived.Laws.IdiomCopy
import Derived.Lib.Walk
import Derived.Lib.ByteType
import Derived.Lib.Buffer
import Derived.Shelf.Abstract
import Derived.WalkKit
import Derived.WalkSpells
import Derived.WalkLawsBesides
import Derived.OwnWalk
import Derived.Defers
import Derived.Recover
import Derived.Lib.BufferRead
import Derived.Test.YtpmoonglbcglaaaDoorGWE
import Derived.Test.YtpmoonglbcglaaaDoorGWV
namespace Go.Proofs.YtpmoonglbcglaaaDoor
open Go.RowKit
theorem info_byte : (Tryd.prog.info? 5).map (fun i => (i.zero, i.size, i.bytes)) = some (some (.int .u8 0), 1, 1) := by kernel_rfl
/-- What growSlice defers finds nothing. -/
theorem grow_idle (w : World) : CallsD Tryd.prog 29 #[] .returning w fun e u' w' => e = .returned (.tuple #[]) ∧ u' = .returning ∧ w' = w := by
  have hnn : ∀ w, (binOp .neq 20 .nilIface .nilIface).run Tryd.prog w = .ok (.bool false) w := fun w => Lib.run_neq_nil_nil w Tryd.underlying20
  refine callsD_of_wpS Tryd.func29 rfl fun c₀ cs hu => ?_
  apply wpS_seq
  apply wpS_region
  simp [wpOpsS, go_sem, recoverD, hu, hnn, Tryd.ntmps29, Exit.thenS]
  refine wpS_cond (t := false) (by simp [Act.eval, Array.replicate]) ?_
  simp only [Bool.false_eq_true, if_false]
  refine wpS_of_wp (wp_skip ?_)
  cases c₀
  simp_all [bodyPostS, results, (show Tryd.f29.results = #[] from rfl)]
theorem cells_part {w : World} {g o : Nat} {cur : Array Value} {T : TypeId} {fr : Nat × Nat} (hg : w.heap[g]? = some (.cells cur T fr)) (l : Nat) :
    ∀ j v, ((cur.toList.drop o).take l)[j]? = some v → w.cell? ((⟨g, o, none⟩ : Addr).add j) = some v := by
  intro j v hj
  rw [add_at, cell_of_row w g (o + j) cur T fr hg]
  rw [List.getElem?_take] at hj
  split at hj
  · simpa using hj
  · cases hj
set_option maxHeartbeats 6400000 in
set_option maxRecDepth 100000 in
theorem growSlice_part (g o l c n : Nat) (cur : Array Value) (fz : Nat × Nat) (w : World) (hg : w.heap[g]? = some (.cells cur 5 fz)) (hlo : o + l ≤ cur.size) (hlc : l ≤ c) (hn : 1 ≤ n)
  (hlim : l + n ≤ 1000000000) (hc2 : c ≤ 1000000000) (h1 : ∀ v ∈ (cur.toList.drop o).take l, v.oneCell' = true) :
  Calls Tryd.prog 28 #[.slice (some ⟨g, o, none⟩) l c, .int .i64 n] w fun e w' => ∃ cap2 cells, e = .returned (.slice (some ⟨w.heap.size, 0, none⟩) l cap2) ∧ w'.heap[w.heap.size]? = some (.cells cells 5 (0, 0)) ∧
   cells.size = cap2 ∧ cells.toList = (cur.toList.drop o).take l ++ List.replicate (cap2 - l) (.int .u8 0) ∧ max (l + n) (2 * c) ≤ cap2 ∧ cap2 ≤ maxLen ∧ Below w.heap.size w w' := by
 obtain ⟨i0, hi, hz0, hz1, hz2⟩ := info_parts info_byte
 have hsz1 : (Tryd.prog.info? 5).map (·.size) = some 1 := by rw [hi]; simp [hz1]
 have key : ∀ K : Nat, K = max (l + n) (2 * c) → ∃ cap2 Z, (Builtin.append_ #[38, 3] 38 #[.slice none 0 0, .int .i64 K]).run Tryd.prog w = .ok (.slice (some ⟨w.heap.size, 0, none⟩) K cap2) (w.alloc (.cells Z 5)).drew ∧ K ≤ cap2 ∧ cap2 ≤ maxLen ∧ Z.size = cap2 ∧ Z.toList = List.replicate cap2 (.int .u8 0) := fun K hK => by
  have happ := Lib.run_append_nil_zeros (P := Tryd.prog) w 38 3 38 5 i0 (.int .u8 0) .i64 .i64 Tryd.underlying38 Tryd.underlying3 hi hz0 K (by omega) (by omega) (by omega) (by rw [hz2]; omega)
  refine ⟨grownCap w K 0 5, _, happ, grownCap_ge w _ 0 _, grownCap_le_maxLen w _ 0 _ (by unfold maxLen; omega), ?_, ?_⟩
  ·have := grownCap_ge w K 0 5
   simp [size_zeroCells, Value.cells]; omega
  ·have := grownCap_ge w K 0 5
   have h2 : ∀ m, (Builtin.zeroCells (Value.int .u8 0).cells m).toList = List.replicate m (.int .u8 0) := fun m => by
    refine List.ext_getElem? fun j => ?_
    simp only [Builtin.zeroCells, Value.cells, Array.toList_map, Array.toList_range, List.getElem?_map, List.getElem?_replicate]
    by_cases hj : j < m
    ·simp [hj, Nat.mod_one]
    ·simp [hj]
   rw [Array.toList_append, h2, h2, List.replicate_append_replicate]
   congr 1; omega
 obtain ⟨cap2, Z, happ, hge, hle, hZs, hZl⟩ := key _ rfl
 have hgl := Lib.lt_of_heap hg
 have hxl : ((cur.toList.drop o).take l).length = l := by rw [List.length_take, List.length_drop, Array.length_toList]; omega
 obtain ⟨xs, hxs⟩ : ∃ xs, xs = (cur.toList.drop o).take l := ⟨_, rfl⟩
 have hcp := cells_part (o := o) (show (w.alloc (.cells Z 5)).drew.heap[g]? = some (.cells cur 5 fz) by show (w.alloc (.cells Z 5)).heap[g]? = _; rw [RowKit.Below.heap_alloc w _ g hgl]; exact hg) l
 rw [← hxs] at hcp h1 hxl ⊢
 by_cases hC : l + n < 2 * c
 ·rw [show max (l + n) (2 * c) = 2 * c by omega] at happ hge ⊢
  rw [show (((2 * c : Nat)) : Int) = 2 * (c : Int) by omega] at happ
  have hcopy := run_copy_row (P := Tryd.prog) (w.alloc (.cells Z 5)).drew 38 38 3 5 w.heap.size 0 (2 * c) cap2 ⟨g, o, none⟩ l c Z 5 xs Tryd.underlying38 hsz1 (heap_alloc_new w _) (by rw [hxl]; exact (Nat.min_eq_left (by omega)).symm) hcp (by rw [hxl]; omega) h1
  rw [hxl] at hcopy
  generalize hY : (Z.toList.take 0 ++ xs ++ Z.toList.drop (0 + l)).toArray = Y at hcopy
  go_enter_defers Tryd.func28, Tryd.ntmps28
  go_wp2_with (at_builtin; refine Lib.wpList_append_run _ rfl _ _ _ _ rfl _ _ rfl rfl _ _ happ ?_)
  refine leaves_cons (f := 29) (args := #[]) (by simp) (enters_of Tryd.func29 (by kernel_rfl) rfl _ _) ?_
  refine (grow_idle _).mono ?_
  rintro e u' w'' ⟨rfl, rfl, rfl⟩
  refine ⟨_, results_tmp rfl _ _ _, ?_⟩
  have hYl : Y.toList = xs ++ Z.toList.drop l := by rw [← hY]; simp
  refine ⟨cap2, Y, rfl, setRow_heap _ _ Z Y 5 (0, 0) (heap_alloc_new w _), ?_, ?_, by omega, hle, ?_⟩
  ·have : Y.toList.length = cap2 := by rw [hYl, List.length_append, hxl, List.length_drop, Array.length_toList, hZs]; omega
   simpa using this
  ·rw [hYl, hZl, List.drop_replicate]
  ·exact ⟨rfl, rfl, rfl, by simp, fun k hk => by rw [setRow_other _ _ _ _ (by omega)]; exact Below.heap_alloc w _ k hk⟩
 ·rw [show max (l + n) (2 * c) = l + n by omega] at happ hge ⊢
  rw [show (((l + n : Nat)) : Int) = (l : Int) + (n : Int) by omega] at happ
  have hcopy := run_copy_row (P := Tryd.prog) (w.alloc (.cells Z 5)).drew 38 38 3 5 w.heap.size 0 (l + n) cap2 ⟨g, o, none⟩ l c Z 5 xs Tryd.underlying38 hsz1 (heap_alloc_new w _) (by rw [hxl]; exact (Nat.min_eq_left (by omega)).symm) hcp (by rw [hxl]; omega) h1
  rw [hxl] at hcopy
  generalize hY : (Z.toList.take 0 ++ xs ++ Z.toList.drop (0 + l)).toArray = Y at hcopy
  go_enter_defers Tryd.func28, Tryd.ntmps28
  go_wp2_with (at_builtin; refine Lib.wpList_append_run _ rfl _ _ _ _ rfl _ _ rfl rfl _ _ happ ?_)
  refine leaves_cons (f := 29) (args := #[]) (by simp) (enters_of Tryd.func29 (by kernel_rfl) rfl _ _) ?_
  refine (grow_idle _).mono ?_
  rintro e u' w'' ⟨rfl, rfl, rfl⟩
  refine ⟨_, results_tmp rfl _ _ _, ?_⟩
  have hYl : Y.toList = xs ++ Z.toList.drop l := by rw [← hY]; simp
  refine ⟨cap2, Y, rfl, setRow_heap _ _ Z Y 5 (0, 0) (heap_alloc_new w _), ?_, ?_, by omega, hle, ?_⟩
  ·have : Y.toList.length = cap2 := by rw [hYl, List.length_append, hxl, List.length_drop, Array.length_toList, hZs]; omega
   simpa using this
  ·rw [hYl, hZl, List.drop_replicate]
  ·exact ⟨rfl, rfl, rfl, by simp, fun k hk => by rw [setRow_other _ _ _ _ (by omega)]; exact Below.heap_alloc w _ k hk⟩
end Go.Proofs.YtpmoonglbcglaaaDoor
namespace Go.Proofs.YtpmoonglbcglaaaDoor
open Go.RowKit
def z64 : List UInt8 := List.replicate 64 0
theorem z64_len : z64.length = 64 := by simp [z64]
/-- Bytes written over those at m. -/
def wrB (l : List UInt8) (m : Nat) (s : List UInt8) : List UInt8 := l.take m ++ s ++ l.drop (m + s.length)
theorem wrB_list (l : List UInt8) (m : Nat) (s : List UInt8) : (AV.aggB (wrB l m s)).list = (AV.aggB l).list.take m ++ (s.map AV.u8).take s.length ++ (AV.aggB l).list.drop (m + s.length) := by
  have h : (s.map AV.u8).take s.length = s.map AV.u8 := List.take_of_length_le (by simp)
  rw [h]
  show (wrB l m s).map AV.u8 = (l.map AV.u8).take m ++ s.map AV.u8 ++ (l.map AV.u8).drop (m + s.length)
  simp [wrB, List.map_take, List.map_drop]
end Go.Proofs.YtpmoonglbcglaaaDoor
namespace Go.Proofs.YtpmoonglbcglaaaDoor
open Go.RowKit
/-- Bytes, and cells of which nothing is known. -/
def bufC (l : List UInt8) (C : Nat) : AV := .agg (l.map .u8 ++ List.replicate (C - l.length) .hole)
theorem bufC_list (l : List UInt8) (C : Nat) : (bufC l C).list = l.map .u8 ++ List.replicate (C - l.length) .hole := rfl
theorem names_u8 (l : List UInt8) (m : Nat) : AV.namesL (l.map AV.u8 ++ List.replicate m AV.hole) = [] := by
  induction l with
  | nil => induction m with
    | zero => rfl
    | succ m ih => show AV.namesL (AV.hole :: List.replicate m AV.hole) = []; exact ih
  | cons a l ih => exact ih
theorem ren_u8 (r : Nat → Nat) (l : List UInt8) (m : Nat) : AV.renL r (l.map AV.u8 ++ List.replicate m AV.hole) = l.map AV.u8 ++ List.replicate m AV.hole := by
  rw [renL_eq, List.map_append, List.map_map, List.map_replicate]; rfl
theorem bufC_ren (r : Nat → Nat) (l : List UInt8) (C : Nat) : (bufC l C).ren r = bufC l C := congrArg AV.agg (ren_u8 r l _)
theorem bufC_names (l : List UInt8) (C : Nat) : (bufC l C).names = [] := names_u8 l _
theorem bufC_nmC (L : List (Nat × Nat)) (l : List UInt8) (C : Nat) : nmOkC L (bufC l C).names = true := by rw [bufC_names]; rfl
theorem bufC_nm (L : List (Nat × Nat)) (l : List UInt8) (C : Nat) : nmOk L (bufC l C).names = true := by rw [bufC_names]; rfl
theorem bufC_nmF (L N : List (Nat × Nat)) (l : List UInt8) (C : Nat) : nmOkF L N (bufC l C).names = true := by rw [bufC_names]; rfl
theorem bufC_len {l : List UInt8} {C : Nat} (h : l.length ≤ C) : (bufC l C).len = C := by
  show (l.map AV.u8 ++ List.replicate (C - l.length) AV.hole).length = C
  simp; omega
theorem bufC_part {l : List UInt8} {C o n : Nat} (h : o + n ≤ l.length) : ((bufC l C).list.drop o).take n = ((l.drop o).take n).map .u8 := by
  rw [bufC_list, List.drop_append_of_le_length (by simp; omega), List.take_append_of_le_length (by simp; omega)]
  simp [List.map_take, List.map_drop]
theorem bufC_write {l : List UInt8} {C m : Nat} (s : List UInt8) (hm : m ≤ l.length) (hC : l.length ≤ C) (hs : m + s.length ≤ C) :
    (bufC (wrB l m s) C).list = (bufC l C).list.take m ++ (s.map AV.u8).take s.length ++ (bufC l C).list.drop (m + s.length) := by
  have e1 : (s.map AV.u8).take s.length = s.map AV.u8 := List.take_of_length_le (by simp)
  rw [e1, bufC_list, bufC_list, List.take_append_of_le_length (by simp; omega), wrB]
  simp only [List.map_append, List.map_take, List.map_drop, List.append_assoc]
  congr 2
  rw [List.drop_append, List.drop_replicate]
  congr 1
  simp only [List.length_append, List.length_take, List.length_drop, List.length_map]
  congr 1; omega
theorem wrB_len {l : List UInt8} {m : Nat} (s : List UInt8) (hm : m ≤ l.length) : (wrB l m s).length = max l.length (m + s.length) := by
  unfold wrB; simp; omega
theorem wrB_live {l : List UInt8} {m o : Nat} (s : List UInt8) (hm : m ≤ l.length) (ho : o ≤ m) : ((wrB l m s).take (m + s.length)).drop o = (l.take m).drop o ++ s := by
  unfold wrB
  have h1 : (l.take m ++ s).length = m + s.length := by simp; omega
  rw [List.take_append_of_le_length (by omega), List.take_of_length_le (by omega), List.drop_append_of_le_length (by simp; omega)]
/-- bytes moved to the front. -/
def mvB (l : List UInt8) (o L : Nat) : List UInt8 := (l.take L).drop o ++ l.drop (L - o)
theorem mvB_len {l : List UInt8} {o L : Nat} (h1 : o ≤ L) (h2 : L ≤ l.length) : (mvB l o L).length = l.length := by
  unfold mvB; simp; omega
theorem mvB_live {l : List UInt8} {o L : Nat} (h1 : o ≤ L) (h2 : L ≤ l.length) : (mvB l o L).take (L - o) = (l.take L).drop o := by
  unfold mvB
  rw [List.take_append_of_le_length (by simp; omega), List.take_of_length_le (by simp; omega)]
theorem take_drop_comm (l : List UInt8) (o L : Nat) : (l.take L).drop o = (l.drop o).take (L - o) := by rw [List.drop_take]
theorem bufC_move {l : List UInt8} {C o L : Nat} (h1 : o ≤ L) (h2 : L ≤ l.length) (h3 : l.length ≤ C) :
    (bufC (mvB l o L) C).list = (bufC l C).list.take 0 ++ (((l.drop o).take (L - o)).map AV.u8).take (L - o) ++ (bufC l C).list.drop (0 + (L - o)) := by
  have e1 : (((l.drop o).take (L - o)).map AV.u8).take (L - o) = ((l.drop o).take (L - o)).map AV.u8 := List.take_of_length_le (by simp; omega)
  rw [e1, bufC_list, bufC_list, mvB_len h1 h2, List.take_zero, List.nil_append, Nat.zero_add, List.drop_append_of_le_length (by simp; omega), mvB, take_drop_comm]
  simp [List.map_take, List.map_drop, List.append_assoc]
theorem RH.fresh {E : Emb} {S : Nat → Prop} {H : Hp} {w w' : World} (h : RH E S H w) {b l0 s : Nat} (hw : ∀ l, l < w.heap.size → w'.heap[l]? = w.heap[l]?) (hl0 : w.heap.size ≤ l0) (hS : S l0) (hb : E b = none) (k : ABlk)
    (hk0 : KAt (E.put b (l0, s)) k w' l0 s) : RH (E.put b (l0, s)) S (upd [(b, some k)] H) w' := by
  have hle := Emb.put_le (E := E) (b := b) (p := (l0, s)) hb
  have lt : ∀ n k' l s, H n = some k' → E n = some (l, s) → l < w.heap.size := fun n k' l s hk he => by
    obtain ⟨l', s', h1, h2⟩ := h.blk n k' hk
    rw [he] at h1; injection h1 with h1; injection h1 with h1 _; rw [h1]; exact h2.lt
  refine ⟨fun n k' hk => ?_, fun n n' k1 k2 l s1 s' h1 h2 h3 h4 h5 => ?_, fun n k' l s1 h1 h2 h3 => ?_, fun a L s1 ha => ?_⟩
  rotate_right 1
  · have hd := h.deep a L s1 ha
    refine ⟨hd.1.mono (hw a hd.1.lt), fun n k' s' hk ho' he => ?_⟩
    rw [upd_one] at hk
    split at hk
    · rename_i e; subst e
      rw [Emb.put_same] at he; injection he with he; injection he with he _
      have := hd.1.lt
      omega
    · rename_i e
      rw [Emb.put_other _ _ e] at he
      exact hd.2 n k' s' hk ho' he
  · rw [upd_one] at hk
    split at hk
    · rename_i e; subst e; injection hk with hk; subst hk
      exact ⟨l0, s, Emb.put_same _ _ _, hk0⟩
    · obtain ⟨l, s, h1, h2⟩ := h.blk n k' hk
      exact ⟨l, s, hle.1 _ _ h1, h2.mono hle (hw l h2.lt)⟩
  · rw [upd_one] at h1 h2
    by_cases e1 : n = b
    · by_cases e2 : n' = b
      · rw [e1, e2]
      · rw [if_neg e2] at h2
        rw [Emb.put_other _ _ e2] at h5
        subst e1
        rw [Emb.put_same] at h4; injection h4 with h4; injection h4 with h4 _
        have := lt n' k2 _ _ h2 h5
        omega
    · rw [if_neg e1] at h1
      rw [Emb.put_other _ _ e1] at h4
      by_cases e2 : n' = b
      · subst e2
        rw [Emb.put_same] at h5; injection h5 with h5; injection h5 with h5 _
        have := lt n k1 _ _ h1 h4
        omega
      · rw [if_neg e2] at h2
        rw [Emb.put_other _ _ e2] at h5
        exact h.inj n n' k1 k2 l s1 s' h1 h2 h3 h4 h5
  · rw [upd_one] at h1
    by_cases e1 : n = b
    · subst e1
      rw [Emb.put_same] at h3; injection h3 with h3; injection h3 with h3 _
      rw [← h3]; exact hS
    · rw [if_neg e1] at h1
      rw [Emb.put_other _ _ e1] at h3
      exact h.own n k' l s1 h1 h2 h3
section
variable {P : Program} {T : Nat → Option AV} {H : Hp} {nm : Nat} {wr : Bool} {d : Option Tmp} {ty t t2 e : TypeId} {ps : String} {af : Array Edge} {gd : Option (Nat × Bool)} {x y : Operand} {b o n m : Nat} {k : ABlk} {l : List UInt8}
theorem srcs_rng (hy : aev T y = some (.sl b o m 1)) (hk : H b = some k) (hl : l.length = m) (hc : (k.c.list.drop o).take m = l.map .u8) (hmm : k.c.isMap = false := by first | rfl | assumption | exact AV.map_parts (by assumption)) : Srcs P T H y 1 m (l.map .u8) := by
  refine ⟨by simp [hl], fun E S a w hop hR => ?_⟩
  obtain ⟨l', s', h3, arr, tq, fz, g1, g2, g3, g4, g5⟩ := hR.blkR hk hmm
  rcases (hop _ hy).sl_inv with ⟨lc, s, c, q1, q2, q3, q4, q5⟩ | ⟨ad, h0, q5⟩
  · rw [q1] at h3; injection h3 with h3; injection h3 with e1 e2; subst e1; subst e2
    refine ⟨(arr.toList.drop o).take (m * 1), by simp; omega, fun i q hq => ?_, fun w' hw => ⟨by rw [q5]; rfl, fun r hr => ?_⟩⟩
    · obtain ⟨u, hu, rfl⟩ := get_map_some hq
      have hi : i < m := by rw [← hl]; exact (List.getElem?_eq_some_iff.1 hu).1
      rw [← hc, List.getElem?_take, if_pos hi, List.getElem?_drop] at hq
      obtain ⟨p1, yv, p2, p3⟩ := g5 (o + i) _ hq
      refine ⟨rfl, yv, ?_, p3⟩
      rw [List.getElem?_take, if_pos (by omega), List.getElem?_drop]
      simpa using p2
    · rw [q5]
      have hrz : r * 1 ≤ m * 1 := Nat.mul_le_mul_right _ hr
      have hlen2 : (((arr.toList.drop o).take (m * 1)).take (r * 1)).length = r * 1 := by simp; omega
      exact run_firstCells_some (P := P) w' 1 r ⟨lc, o, none⟩ m c _ hlen2 (fun j v hj => by
        rw [add_at, World.cell?_of_block (w := w) (a := ⟨lc, o + j, none⟩) (by rw [hw]), cell_of_row w lc (o + j) arr tq fz g1]
        rw [List.getElem?_take] at hj
        split at hj
        · rw [List.getElem?_take] at hj
          split at hj
          · rw [List.getElem?_drop] at hj; simpa using hj
          · cases hj
        · cases hj)
  · subst h0
    have hl0 : l = [] := List.eq_nil_of_length_eq_zero hl
    subst hl0
    refine ⟨[], by simp, fun i q hq => by simp at hq, fun w' hw => ⟨by rw [q5]; rfl, fun r hr => ?_⟩⟩
    have hr0 : r = 0 := by omega
    subst hr0
    rw [q5]
    cases ad with
    | none => simp [Builtin.firstCells]
    | some ad =>
      have := run_firstCells_some (P := P) w' 1 0 ad 0 0 [] (by simp) (fun j v hj => by cases hj)
      simpa using this
/-- string(bytes) of a part of a row. -/
theorem op_bytes_strR (hs : P.underlying t = some (.slice e)) (he : P.underlying e = some (.int .u8)) (hd : P.underlying t2 = some .string) (hx : aev T x = some (.sl b o n 1)) (hk : H b = some k) (hl : l.length = n) (hc : (k.c.list.drop o).take n = l.map .u8) (hmm : k.c.isMap = false := by first | rfl | assumption | exact AV.map_parts (by assumption)) :
    OpSem P T H ⟨d, .convert t t2 x, ty, ps, af, gd⟩ nm wr (.str l) [] :=
  .reads fun E S a w h hR => by
    obtain ⟨l', s', h3, h4⟩ := hR.blkR hk hmm
    have hcell : ∀ i (hi : i < l.length), w.cell? ⟨l', o + i, none⟩ = some (.int .u8 (l[i].toNat : Int)) := fun i hi => by
      have hq : k.c.list[o + i]? = some (.u8 l[i]) := by
        rw [← List.getElem?_drop, ← List.getElem?_take_of_lt (show i < n by omega), hc]
        simp [hi]
      obtain ⟨_, y, h5, h6⟩ := h4.cell hq
      rw [h5, h6.u8_inv]
    rcases (h x mem1 _ hx).sl_inv with ⟨lc, s, c, g1, g2, g3, g4, g5⟩ | ⟨ad, h0, g5⟩
    · rw [g1] at h3; injection h3 with h3; injection h3 with e1 _; subst e1
      have := run_convert_bytes_back (P := P) w t t2 e ⟨lc, o, none⟩ c l hs he hd (fun j hj => by rw [add_at, hcell _ hj])
      rw [hl] at this
      exact ⟨_, by simp [execOp, g5, this], .str _⟩
    · subst h0
      have hl0 : l = [] := List.eq_nil_of_length_eq_zero hl
      subst hl0
      cases ad with
      | some ad =>
        have := run_convert_bytes_back (P := P) w t t2 e ad 0 [] hs he hd (fun j hj => by simp at hj)
        exact ⟨_, by simp [execOp, g5, show (convert t t2 (.slice (some ad) 0 0)).run P w = .ok (.string ⟨#[]⟩) w from this], .str _⟩
      | none =>
        exact ⟨_, by simp [execOp, g5, Lib.run_convert_nil_bytes w t t2 e 0 hs he hd], .str _⟩
end
/-- The capacity of a slice that lies in a block's cell becomes known. -/
theorem Ev.openK {P : Program} {nt : Nat} {c : Code} {T : List (Nat × AV)} {H : List (Nat × Option ABlk)} {nx : Nat} {post : Exit → St → Prop} {B i b n m eB : Nat} {ob : Bool} {cs : List AV} {k : ABlk} (c2 : Nat → AV)
    (hB : hget H B = some ⟨.agg cs, eB, ob⟩) (hi : cs[i]? = some (.slk b 0 n m false)) (hb : hget H b = some k) (hne : B ≠ b) (hown : k.own = true) (hc2 : ∀ C, m ≤ C → (c2 C).list = k.c.list ++ List.replicate (C - k.c.list.length) .hole)
    (hm : k.c.list.length ≤ m) (hmm : k.c.isMap = false) (hm2 : ∀ C, (c2 C).isMap = false) (h : ∀ C, m ≤ C → C ≤ maxLen → Ev P nt c ⟨T, (B, some ⟨.agg (cs.set i (.slk b 0 n C true)), eB, ob⟩) :: (b, some ⟨c2 C, k.elem, true⟩) :: H, nx⟩ post) : Ev P nt c ⟨T, H, nx⟩ post := by
  intro E S n0 a w hn hR
  obtain ⟨l, s, h1, arr, tq, fz, g1, g2, g3, g4, g5⟩ := hR.rh.blkR hB rfl
  obtain ⟨p1, y, p2, p3⟩ := g5 i _ hi
  obtain ⟨lb, sb, C, q1, q2, q3, q4, q5, q6, q7⟩ := p3.slk_inv
  obtain ⟨lb', sb', f1, f2⟩ := hR.rh.blkR hb hmm
  rw [q1] at f1; injection f1 with f1; injection f1 with f3 f4; subst f3; subst f4
  have hup : ∀ q, hget ((B, some (⟨.agg (cs.set i (.slk b 0 n C true)), eB, ob⟩ : ABlk)) :: (b, some ⟨c2 C, k.elem, true⟩) :: H) q = if q = B then some ⟨.agg (cs.set i (.slk b 0 n C true)), eB, ob⟩ else if q = b then some ⟨c2 C, k.elem, true⟩ else hget H q := fun q => by
    have e1 := upd_one B (some (⟨.agg (cs.set i (.slk b 0 n C true)), eB, ob⟩ : ABlk)) (hget ((b, some (⟨c2 C, k.elem, true⟩ : ABlk)) :: H)) q
    rw [upd_hget] at e1
    have e2 := upd_one b (some (⟨c2 C, k.elem, true⟩ : ABlk)) (hget H) q
    rw [upd_hget] at e2
    refine e1.trans ?_
    split
    · rfl
    · exact e2
  have old : ∀ q k', hget ((B, some (⟨.agg (cs.set i (.slk b 0 n C true)), eB, ob⟩ : ABlk)) :: (b, some ⟨c2 C, k.elem, true⟩) :: H) q = some k' → ∃ k0, hget H q = some k0 ∧ k0.own = k'.own := fun q k' hk => by
    rw [hup] at hk
    split at hk
    · rename_i e; subst e; injection hk with hk; subst hk; exact ⟨_, hB, rfl⟩
    · split at hk
      · rename_i e; subst e; injection hk with hk; subst hk; exact ⟨_, hb, hown⟩
      · exact ⟨_, hk, rfl⟩
  refine h C q3 q5 E S n0 a w hn ⟨hR.rt, hR.nt, hR.df, ⟨fun q k' hk => ?_, fun q q' k1 k2 p s1 s2 k3 k4 k5 k6 k7 => ?_, fun q k1 p s1 k3 k4 k5 => ?_, fun a1 L1 s9 ha => ⟨(hR.rh.deep a1 L1 s9 ha).1, fun q k' s2 k3 k4 k5 => ?_⟩⟩, hR.fr, hR.gl, hR.hS, hR.h0⟩
  rotate_left 3
  · obtain ⟨k1', u1, u2⟩ := old _ _ k3
    exact (hR.rh.deep a1 L1 s9 ha).2 q k1' s2 u1 (u2.trans k4) k5
  rotate_right 3
  · rw [hup] at hk
    split at hk
    · rename_i e; subst e; injection hk with hk; subst hk
      refine ⟨l, s, h1, .row rfl ⟨arr, tq, fz, g1, g2, ⟨⟨g3.1.w, g3.1.z, fun h h' h'' => by
        have := g3.1.f h h' h''
        refine ⟨this.1, ?_⟩
        have e : (cs.set i (.slk b 0 n C true)).length = cs.length := List.length_set
        show (cs.set i (.slk b 0 n C true)).length ≤ _
        rw [e]; exact this.2⟩, g3.2⟩, ?_, fun j x hx => ?_⟩⟩
      · show (cs.set i (.slk b 0 n C true)).length ≤ s
        rw [List.length_set]; exact g4
      · have hx' : (cs.set i (.slk b 0 n C true))[j]? = some x := hx
        rw [List.getElem?_set] at hx'
        split at hx'
        · rename_i e; subst e
          split at hx'
          · injection hx' with hx'; subst hx'
            exact ⟨rfl, y, p2, by rw [q7]; exact .slk _ _ _ _ _ _ _ _ q1 (by omega) (Nat.le_refl _) (fun _ => rfl) q5 q6⟩
          · cases hx'
        · exact g5 j x hx'
    · split at hk
      · rename_i e; subst e; injection hk with hk; subst hk
        obtain ⟨arr', tq', fz', r1, r2, r3, r4, r5⟩ := f2
        refine ⟨lb, sb, q1, .row (hm2 C) ⟨arr', tq', fz', r1, r2, ⟨⟨fun _ => r3.1.w hown, r3.1.z, fun h => by cases h⟩, ?_⟩, ?_, fun j x hx => ?_⟩⟩
        · rcases r3.2 with h | ⟨h, _⟩ | h
          · exact .inl h
          · exact .inr (.inl ⟨h, .inl rfl⟩)
          · exact .inr (.inr h)
        · show (c2 C).list.length ≤ sb
          rw [hc2 C q3, List.length_append, List.length_replicate]; omega
        · have hx' : (c2 C).list[j]? = some x := hx
          rw [hc2 C q3] at hx'
          by_cases hj : j < k.c.list.length
          · rw [List.getElem?_append_left hj] at hx'
            exact r5 j x hx'
          · rw [List.getElem?_append_right (by omega), List.getElem?_replicate] at hx'
            split at hx'
            · injection hx' with hx'; subst hx'
              have hj2 : j < arr'.size := by omega
              exact ⟨rfl, arr'[j], Array.getElem?_eq_getElem hj2, .hole _⟩
            · cases hx'
      · exact hR.rh.blk q k' hk
  · obtain ⟨k1', u1, u2⟩ := old _ _ k3
    obtain ⟨k2', u3, u4⟩ := old _ _ k4
    exact hR.rh.inj q q' k1' k2' p s1 s2 u1 u3 (u2.trans k5) k6 k7
  · obtain ⟨k1', u1, u2⟩ := old _ _ k3
    exact hR.rh.own q k1' p s1 u1 (u2.trans k4) k5
/-- growSlice. -/
theorem growSlice_ev501 (l : List UInt8) (C L o n : Nat) (ho : o ≤ L) (hL : L ≤ l.length) (hlC : l.length ≤ C) (hC : C ≤ 1000000000) (hn : 1 ≤ n) (hlim : L - o + n ≤ 1000000000) :
    Meets Tryd.prog 28 [.slk 501 o (L - o) (C - o) true, .i64 (n : Int)] [(501, some ⟨bufC l C, 5, false⟩)] (.slk 1000 0 (L - o) (max (L - o + n) (2 * (C - o))) false) [(1000, some ⟨.aggB ((l.take L).drop o ++ List.replicate (max (L - o + n) (2 * (C - o)) - (L - o)) 0), 5, true⟩)] := by
  intro E S n0 vals w hg hfr hl hr hR hS h0
  obtain ⟨a, a2, rfl, ha, ha2⟩ := args2 hl hr
  obtain ⟨l', s, c', q1, q2, q3, q4, q5, q6, q7⟩ := ha.slk_inv
  obtain rfl := q4 rfl
  rw [q7, ha2.i64_inv]
  obtain ⟨l2, s2, f1, arr, tq, fz, g1, g2, g3, g4, g5⟩ := hR.blkR (b := 501) rfl rfl
  rw [q1] at f1; injection f1 with f1; injection f1 with f3 f4; subst f3; subst f4
  have htq : tq = 5 := g3.2.is (show (5 : Nat) ≠ 1000000 by decide) (show (5 : Nat) < 2000000 by decide)
  subst htq
  have hsz : C ≤ s := by have := g4; rw [show (ABlk.c ⟨bufC l C, 5, false⟩).list.length = C from (len_list _).trans (bufC_len hlC)] at this; exact this
  have hcell : ∀ i, i < l.length → arr.toList[i]? = some (.int .u8 ((l.getD i 0).toNat : Int)) := fun i hi => by
    have hq : (bufC l C).list[i]? = some (.u8 (l.getD i 0)) := by
      rw [bufC_list, List.getElem?_append_left (by simpa using hi)]
      exact map_nth hi
    obtain ⟨_, yv, p2, p3⟩ := g5 i _ hq
    rw [Array.getElem?_toList, p2, p3.u8_inv]
  have hpart : (arr.toList.drop o).take (L - o) = ((l.take L).drop o).map fun u : UInt8 => Value.int .u8 (u.toNat : Int) := by
    refine List.ext_getElem? fun j => ?_
    rw [List.getElem?_take, List.getElem?_map, List.getElem?_drop, List.getElem?_drop, List.getElem?_take]
    by_cases hj : j < L - o
    · rw [if_pos hj, hcell _ (by omega), if_pos (by omega), List.getD_eq_getElem?_getD, List.getElem?_eq_getElem (by omega)]; rfl
    · rw [if_neg hj, if_neg (by omega)]; rfl
  refine (growSlice_part l' o (L - o) (C - o) n arr fz w g1 (by omega) q2 hn hlim (by omega) (fun v hv => by
    rw [hpart] at hv
    obtain ⟨u, _, rfl⟩ := List.mem_map.1 hv
    rfl)).mono fun e w' hh => ?_
  obtain ⟨cap2, cells, he, hrow, hcs, hcl, hge, hle, hb⟩ := hh
  rw [hpart] at hcl
  refine ⟨_, E.put 1000 (w.heap.size, cells.size), he, ⟨fun b hb => Emb.put_other _ _ (by omega), fun _ => .inl rfl⟩, .slk _ _ _ _ _ _ _ _ (Emb.put_same _ _ _) (by omega) hge (fun h => by cases h) hle (by omega), ?_, ⟨hb.os, hb.tape, hb.output, hb.size, fun k hk _ => hb.block k hk, trivial⟩⟩
  have hRf := hR.fresh (b := 1000) (l0 := w.heap.size) (s := cells.size) (fun l hl => hb.block l hl) (Nat.le_refl _) (hS _ h0) (hfr 1000 (Nat.le_refl _)) ⟨.aggB ((l.take L).drop o ++ List.replicate (max (L - o + n) (2 * (C - o)) - (L - o)) 0), 5, true⟩ (.row rfl ⟨cells, _, (0, 0), hrow, rfl, ⟨FzOk.zero _ _, .inr (.inl ⟨rfl, .inl rfl⟩)⟩, ?_, fun i x hx => ?_⟩)
  · refine hRf.less fun q k hk => ?_
    have hm := hget_mem hk
    simp only [List.mem_singleton, Prod.mk.injEq, Option.some.injEq] at hm
    obtain ⟨rfl, rfl⟩ := hm
    rw [upd_one, if_pos rfl]
  · show (((l.take L).drop o ++ List.replicate _ (0 : UInt8)).map AV.u8).length ≤ _
    simp; omega
  · obtain ⟨u, hu, rfl⟩ := get_map_some hx
    refine ⟨rfl, .int .u8 (u.toNat : Int), ?_, .u8 _⟩
    rw [← Array.getElem?_toList, hcl]
    by_cases hi : i < L - o
    · rw [List.getElem?_append_left (by simp; omega)] at hu ⊢
      rw [List.getElem?_map, hu]; rfl
    · rw [List.getElem?_append_right (by simp; omega), List.getElem?_replicate] at hu
      split at hu
      · rename_i h9
        injection hu with hu; subst hu
        rw [List.getElem?_append_right (by simp; omega), List.getElem?_replicate, if_pos (by simp at h9 ⊢; omega)]; rfl
      · cases hu
/-- growSlice. -/
theorem growSlice_ev502 (l : List UInt8) (C L o n : Nat) (ho : o ≤ L) (hL : L ≤ l.length) (hlC : l.length ≤ C) (hC : C ≤ 1000000000) (hn : 1 ≤ n) (hlim : L - o + n ≤ 1000000000) :
    Meets Tryd.prog 28 [.slk 502 o (L - o) (C - o) true, .i64 (n : Int)] [(502, some ⟨bufC l C, 5, false⟩)] (.slk 1000 0 (L - o) (max (L - o + n) (2 * (C - o))) false) [(1000, some ⟨.aggB ((l.take L).drop o ++ List.replicate (max (L - o + n) (2 * (C - o)) - (L - o)) 0), 5, true⟩)] := by
  intro E S n0 vals w hg hfr hl hr hR hS h0
  obtain ⟨a, a2, rfl, ha, ha2⟩ := args2 hl hr
  obtain ⟨l', s, c', q1, q2, q3, q4, q5, q6, q7⟩ := ha.slk_inv
  obtain rfl := q4 rfl
  rw [q7, ha2.i64_inv]
  obtain ⟨l2, s2, f1, arr, tq, fz, g1, g2, g3, g4, g5⟩ := hR.blkR (b := 502) rfl rfl
  rw [q1] at f1; injection f1 with f1; injection f1 with f3 f4; subst f3; subst f4
  have htq : tq = 5 := g3.2.is (show (5 : Nat) ≠ 1000000 by decide) (show (5 : Nat) < 2000000 by decide)
  subst htq
  have hsz : C ≤ s := by have := g4; rw [show (ABlk.c ⟨bufC l C, 5, false⟩).list.length = C from (len_list _).trans (bufC_len hlC)] at this; exact this
  have hcell : ∀ i, i < l.length → arr.toList[i]? = some (.int .u8 ((l.getD i 0).toNat : Int)) := fun i hi => by
    have hq : (bufC l C).list[i]? = some (.u8 (l.getD i 0)) := by
      rw [bufC_list, List.getElem?_append_left (by simpa using hi)]
      exact map_nth hi
    obtain ⟨_, yv, p2, p3⟩ := g5 i _ hq
    rw [Array.getElem?_toList, p2, p3.u8_inv]
  have hpart : (arr.toList.drop o).take (L - o) = ((l.take L).drop o).map fun u : UInt8 => Value.int .u8 (u.toNat : Int) := by
    refine List.ext_getElem? fun j => ?_
    rw [List.getElem?_take, List.getElem?_map, List.getElem?_drop, List.getElem?_drop, List.getElem?_take]
    by_cases hj : j < L - o
    · rw [if_pos hj, hcell _ (by omega), if_pos (by omega), List.getD_eq_getElem?_getD, List.getElem?_eq_getElem (by omega)]; rfl
    · rw [if_neg hj, if_neg (by omega)]; rfl
  refine (growSlice_part l' o (L - o) (C - o) n arr fz w g1 (by omega) q2 hn hlim (by omega) (fun v hv => by
    rw [hpart] at hv
    obtain ⟨u, _, rfl⟩ := List.mem_map.1 hv
    rfl)).mono fun e w' hh => ?_
  obtain ⟨cap2, cells, he, hrow, hcs, hcl, hge, hle, hb⟩ := hh
  rw [hpart] at hcl
  refine ⟨_, E.put 1000 (w.heap.size, cells.size), he, ⟨fun b hb => Emb.put_other _ _ (by omega), fun _ => .inl rfl⟩, .slk _ _ _ _ _ _ _ _ (Emb.put_same _ _ _) (by omega) hge (fun h => by cases h) hle (by omega), ?_, ⟨hb.os, hb.tape, hb.output, hb.size, fun k hk _ => hb.block k hk, trivial⟩⟩
  have hRf := hR.fresh (b := 1000) (l0 := w.heap.size) (s := cells.size) (fun l hl => hb.block l hl) (Nat.le_refl _) (hS _ h0) (hfr 1000 (Nat.le_refl _)) ⟨.aggB ((l.take L).drop o ++ List.replicate (max (L - o + n) (2 * (C - o)) - (L - o)) 0), 5, true⟩ (.row rfl ⟨cells, _, (0, 0), hrow, rfl, ⟨FzOk.zero _ _, .inr (.inl ⟨rfl, .inl rfl⟩)⟩, ?_, fun i x hx => ?_⟩)
  · refine hRf.less fun q k hk => ?_
    have hm := hget_mem hk
    simp only [List.mem_singleton, Prod.mk.injEq, Option.some.injEq] at hm
    obtain ⟨rfl, rfl⟩ := hm
    rw [upd_one, if_pos rfl]
  · show (((l.take L).drop o ++ List.replicate _ (0 : UInt8)).map AV.u8).length ≤ _
    simp; omega
  · obtain ⟨u, hu, rfl⟩ := get_map_some hx
    refine ⟨rfl, .int .u8 (u.toNat : Int), ?_, .u8 _⟩
    rw [← Array.getElem?_toList, hcl]
    by_cases hi : i < L - o
    · rw [List.getElem?_append_left (by simp; omega)] at hu ⊢
      rw [List.getElem?_map, hu]; rfl
    · rw [List.getElem?_append_right (by simp; omega), List.getElem?_replicate] at hu
      split at hu
      · rename_i h9
        injection hu with hu; subst hu
        rw [List.getElem?_append_right (by simp; omega), List.getElem?_replicate, if_pos (by simp at h9 ⊢; omega)]; rfl
      · cases hu
end Go.Proofs.YtpmoonglbcglaaaDoor
namespace Go.Proofs.YtpmoonglbcglaaaDoor
open Go.RowKit
/-- Where a buffer's bytes lie. -/
structure BX where
  l : List UInt8
  C : Nat
  L : Nat
  o : Nat
  r : Int
def bV (b : Nat) : Option BX → AV
  | none => .nilsl
  | some x => .slk b 0 x.L x.C true
def bo : Option BX → Int
  | none => 0
  | some x => ((x.o : Nat) : Int)
def br : Option BX → Int
  | none => 0
  | some x => x.r
theorem nmOkC_app {L : List (Nat × Nat)} {x y : List Nat} (h : nmOkC L x = true) (k : nmOkC L y = true) : nmOkC L (x ++ y) = true := by
  induction x with
  | nil => exact k
  | cons n x ih =>
    simp only [nmOkC, Bool.and_eq_true] at h
    show nmOkC L (n :: (x ++ y)) = true
    simp only [nmOkC, Bool.and_eq_true]
    exact ⟨h.1, ih h.2⟩
theorem nmOkF_app {L N : List (Nat × Nat)} {x y : List Nat} (h : nmOkF L N x = true) (k : nmOkF L N y = true) : nmOkF L N (x ++ y) = true := by
  induction x with
  | nil => exact k
  | cons n x ih =>
    simp only [nmOkF, Bool.and_eq_true] at h
    show nmOkF L N (n :: (x ++ y)) = true
    simp only [nmOkF, Bool.and_eq_true]
    exact ⟨h.1, ih h.2⟩
/-- A link's row, of its first buffer told what it is. -/
def row0 (most : Int) (buf : AV) (o r : Int) (b1 : Nat) (z : Option BX) : AV := .agg [.i64 most, .bool false, buf, .i64 o, .val (.int .i8 r), bV b1 z, .i64 (bo z), .val (.int .i8 (br z))]
/-- The same, of its second one. -/
def row1 (most : Int) (buf : AV) (o r : Int) (b0 : Nat) (z : Option BX) : AV := .agg [.i64 most, .bool false, bV b0 z, .i64 (bo z), .val (.int .i8 (br z)), buf, .i64 o, .val (.int .i8 r)]
theorem row0_ren (f : Nat → Nat) (most : Int) (buf : AV) (o r : Int) (b : Nat) (z : Option BX) : (row0 most buf o r b z).ren f = row0 most (buf.ren f) o r (f b) z := by cases z <;> rfl
theorem row0_nmC (L : List (Nat × Nat)) (most : Int) (buf : AV) (o r : Int) (b : Nat) (z : Option BX) (h0 : nmOkC L buf.names = true) (h1 : nmOkC L [b] = true) : nmOkC L (row0 most buf o r b z).names = true := by
  have h2 : nmOkC L (bV b z).names = true := by cases z with
    | none => rfl
    | some z => exact h1
  show nmOkC L ([] ++ ([] ++ (buf.names ++ ([] ++ ([] ++ ((bV b z).names ++ ([] ++ ([] ++ [])))))))) = true
  simp only [List.nil_append, List.append_nil]
  exact nmOkC_app h0 h2
theorem row0_nmF (L N : List (Nat × Nat)) (most : Int) (buf : AV) (o r : Int) (b : Nat) (z : Option BX) (h0 : nmOkF L N buf.names = true) (h1 : nmOkF L N [b] = true) : nmOkF L N (row0 most buf o r b z).names = true := by
  have h2 : nmOkF L N (bV b z).names = true := by cases z with
    | none => rfl
    | some z => exact h1
  show nmOkF L N ([] ++ ([] ++ (buf.names ++ ([] ++ ([] ++ ((bV b z).names ++ ([] ++ ([] ++ [])))))))) = true
  simp only [List.nil_append, List.append_nil]
  exact nmOkF_app h0 h2
theorem row0_uo {L N : List (Nat × Nat)} {most : Int} {buf buf2 : AV} {o r : Int} {b c t : Nat} {z : Option BX} (h0 : buf2.ren (fwd L N) = buf) (h1 : fwd L N c = b) : (⟨row0 most buf o r b z, t, true⟩ : ABlk) = ⟨(row0 most buf2 o r c z).ren (fwd L N), t, true⟩ := by
  rw [row0_ren, h0, h1]
theorem row1_ren (f : Nat → Nat) (most : Int) (buf : AV) (o r : Int) (b : Nat) (z : Option BX) : (row1 most buf o r b z).ren f = row1 most (buf.ren f) o r (f b) z := by cases z <;> rfl
theorem row1_nmC (L : List (Nat × Nat)) (most : Int) (buf : AV) (o r : Int) (b : Nat) (z : Option BX) (h0 : nmOkC L buf.names = true) (h1 : nmOkC L [b] = true) : nmOkC L (row1 most buf o r b z).names = true := by
  have h2 : nmOkC L (bV b z).names = true := by cases z with
    | none => rfl
    | some z => exact h1
  show nmOkC L ([] ++ ([] ++ ((bV b z).names ++ ([] ++ ([] ++ (buf.names ++ ([] ++ ([] ++ [])))))))) = true
  simp only [List.nil_append, List.append_nil]
  exact nmOkC_app h2 h0
theorem row1_nmF (L N : List (Nat × Nat)) (most : Int) (buf : AV) (o r : Int) (b : Nat) (z : Option BX) (h0 : nmOkF L N buf.names = true) (h1 : nmOkF L N [b] = true) : nmOkF L N (row1 most buf o r b z).names = true := by
  have h2 : nmOkF L N (bV b z).names = true := by cases z with
    | none => rfl
    | some z => exact h1
  show nmOkF L N ([] ++ ([] ++ ((bV b z).names ++ ([] ++ ([] ++ (buf.names ++ ([] ++ ([] ++ [])))))))) = true
  simp only [List.nil_append, List.append_nil]
  exact nmOkF_app h2 h0
theorem row1_uo {L N : List (Nat × Nat)} {most : Int} {buf buf2 : AV} {o r : Int} {b c t : Nat} {z : Option BX} (h0 : buf2.ren (fwd L N) = buf) (h1 : fwd L N c = b) : (⟨row1 most buf o r b z, t, true⟩ : ABlk) = ⟨(row1 most buf2 o r c z).ren (fwd L N), t, true⟩ := by
  rw [row1_ren, h0, h1]
theorem beq_of' {a b : Int} (h : a = b) : (a == b) = true := by rw [h]; simp
theorem bne_of {a b : Int} (h : a ≠ b) : (a != b) = true := by simpa using h
theorem beq_no {a b : Int} (h : a ≠ b) : (a == b) = false := by simpa using h
theorem newl_len {l : List UInt8} {L o K : Nat} (ho : o ≤ L) (hL : L ≤ l.length) (hK : L - o ≤ K) : ((l.take L).drop o ++ List.replicate (K - (L - o)) (0 : UInt8)).length = K := by
  simp; omega
set_option maxHeartbeats 6400000 in
set_option maxRecDepth 100000 in
theorem growSlice_nilW (n : Nat) (w : World) (hn : 1 ≤ n) (hlim : n ≤ 1000000000) :
  Calls Tryd.prog 28 #[.slice none 0 0, .int .i64 n] w fun e w' => ∃ cap2 cells, e = .returned (.slice (some ⟨w.heap.size, 0, none⟩) 0 cap2) ∧ w'.heap[w.heap.size]? = some (.cells cells 5 (0, 0)) ∧
   cells.size = cap2 ∧ cells.toList = List.replicate cap2 (.int .u8 0) ∧ n ≤ cap2 ∧ cap2 ≤ maxLen ∧ Below w.heap.size w w' := by
 obtain ⟨i0, hi, hz0, hz1, hz2⟩ := info_parts info_byte
 have hsz1 : (Tryd.prog.info? 5).map (·.size) = some 1 := by rw [hi]; simp [hz1]
 have key : ∃ cap2 Z, (Builtin.append_ #[38, 3] 38 #[.slice none 0 0, .int .i64 n]).run Tryd.prog w = .ok (.slice (some ⟨w.heap.size, 0, none⟩) n cap2) (w.alloc (.cells Z 5)).drew ∧ n ≤ cap2 ∧ cap2 ≤ maxLen ∧ Z.size = cap2 ∧ Z.toList = List.replicate cap2 (.int .u8 0) := by
  have happ := Lib.run_append_nil_zeros (P := Tryd.prog) w 38 3 38 5 i0 (.int .u8 0) .i64 .i64 Tryd.underlying38 Tryd.underlying3 hi hz0 n (by omega) (by omega) (by omega) (by rw [hz2]; omega)
  refine ⟨grownCap w n 0 5, _, happ, grownCap_ge w _ 0 _, grownCap_le_maxLen w _ 0 _ (by unfold maxLen; omega), ?_, ?_⟩
  ·have := grownCap_ge w n 0 5
   simp [size_zeroCells, Value.cells]; omega
  ·have := grownCap_ge w n 0 5
   have h2 : ∀ m, (Builtin.zeroCells (Value.int .u8 0).cells m).toList = List.replicate m (.int .u8 0) := fun m => by
    refine List.ext_getElem? fun j => ?_
    simp only [Builtin.zeroCells, Value.cells, Array.toList_map, Array.toList_range, List.getElem?_map, List.getElem?_replicate]
    by_cases hj : j < m
    ·simp [hj, Nat.mod_one]
    ·simp [hj]
   rw [Array.toList_append, h2, h2, List.replicate_append_replicate]
   congr 1; omega
 obtain ⟨cap2, Z, happ, hge, hle, hZs, hZl⟩ := key
 have hcopy := run_copy_nil (P := Tryd.prog) (w.alloc (.cells Z 5)).drew 38 38 3 5 ⟨w.heap.size, 0, none⟩ n cap2 Tryd.underlying38 (by rw [hsz1]; rfl)
 go_enter_defers Tryd.func28, Tryd.ntmps28
 go_wp2_with (at_builtin; refine Lib.wpList_append_run _ rfl _ _ _ _ rfl _ _ rfl rfl _ _ happ ?_)
 refine leaves_cons (f := 29) (args := #[]) (by simp) (enters_of Tryd.func29 (by kernel_rfl) rfl _ _) ?_
 refine (grow_idle _).mono ?_
 rintro e u' w'' ⟨rfl, rfl, rfl⟩
 refine ⟨_, results_tmp rfl _ _ _, ?_⟩
 exact ⟨cap2, Z, rfl, heap_alloc_new w _, hZs, hZl, hge, hle, ⟨rfl, rfl, rfl, by simp, fun k hk => Below.heap_alloc w _ k hk⟩⟩
/-- growSlice of nothing. -/
theorem growSlice_nil (n : Nat) (hn : 1 ≤ n) (hlim : n ≤ 1000000000) :
  Meets Tryd.prog 28 [.nilsl, .i64 (n : Int)] [] (.slk 1000 0 0 n false) [(1000, some ⟨.aggB (List.replicate n 0), 5, true⟩)] := by
 intro E S n0 vals w hg hfr hl hr hR hS h0
 obtain ⟨a, a2, rfl, ha, ha2⟩ := args2 hl hr
 rw [ha.nilsl_inv, ha2.i64_inv]
 refine (growSlice_nilW n w hn hlim).mono fun e w' hh => ?_
 obtain ⟨cap2, cells, he, hrow, hcs, hcl, hge, hle, hb⟩ := hh
 refine ⟨_, E.put 1000 (w.heap.size, cells.size), he, ⟨fun b hb => Emb.put_other _ _ (by omega), fun _ => .inl rfl⟩, .slk _ _ _ _ _ _ _ _ (Emb.put_same _ _ _) (by omega) hge (fun h => by cases h) hle (by omega), ?_, ⟨hb.os, hb.tape, hb.output, hb.size, fun k hk _ => hb.block k hk, trivial⟩⟩
 have hRf := hR.fresh (b := 1000) (l0 := w.heap.size) (s := cells.size) (fun l hl => hb.block l hl) (Nat.le_refl _) (hS _ h0) (hfr 1000 (Nat.le_refl _)) ⟨.aggB (List.replicate n 0), 5, true⟩ (.row rfl ⟨cells, _, (0, 0), hrow, rfl, ⟨FzOk.zero _ _, .inr (.inl ⟨rfl, .inl rfl⟩)⟩, ?_, fun i x hx => ?_⟩)
 ·refine hRf.less fun q k hk => ?_
  have hm := hget_mem hk
  simp only [List.mem_singleton, Prod.mk.injEq, Option.some.injEq] at hm
  obtain ⟨rfl, rfl⟩ := hm
  rw [upd_one, if_pos rfl]
 ·show ((List.replicate n (0 : UInt8)).map AV.u8).length ≤ _
  simp; omega
 ·obtain ⟨u, hu, rfl⟩ := get_map_some hx
  refine ⟨rfl, .int .u8 (u.toNat : Int), ?_, .u8 _⟩
  rw [← Array.getElem?_toList, hcl]
  rw [List.getElem?_replicate] at hu
  split at hu
  ·rename_i h9
   injection hu with hu; subst hu
   rw [List.getElem?_replicate, if_pos (by omega)]; rfl
  ·cases hu
end Go.Proofs.YtpmoonglbcglaaaDoor
namespace Go.Proofs.YtpmoonglbcglaaaDoor
open Go.RowKit
section
variable {P : Program} {T : Nat → Option AV} {H : Hp} {nm : Nat} {wr : Bool} {d : Option Tmp} {ty t e : TypeId} {ps : String} {af : Array Edge} {gd : Option (Nat × Bool)}
theorem op_buildZero {n z : Nat} {zc : Array Value} {r : AV} (hu : P.underlying t = some (.array n e)) (hsz : (P.info? e).map (·.size) = some z) (hz : (P.info? t).map (·.zero) = some (some (.agg zc))) (hr0 : Rel Emb.nil r (.agg zc)) :
    OpSem P T H ⟨d, .build t #[], ty, ps, af, gd⟩ nm wr r [] :=
  .quiet fun E a w h => by
    have hzr : (zeroValue t).run P w = .ok (.agg zc) w := by
      cases hq : P.info? t with
      | none => simp [hq] at hz
      | some i => simp [hq] at hz; simp [zeroValue, typeInfo, hq, hz]
    refine ⟨.agg zc, ?_, hr0.mono (Emb.nil_le _)⟩
    simp [execOp, Sem.run_bind, Instr.build, hzr, Result.andThen_ok, run_underlying hu, run_sizeOf_is hsz, Value.cells, Instr.fill]
end
theorem bufC_nth {l : List UInt8} {C i : Nat} (h : i < l.length) : (bufC l C).nth i = some (.u8 (l.getD i 0)) := by
  show (l.map AV.u8 ++ List.replicate (C - l.length) AV.hole)[i]? = _
  rw [List.getElem?_append_left (by simpa using h)]
  exact map_nth h
theorem bufC_put {l : List UInt8} {C i : Nat} {x : UInt8} (h : i < l.length) : (bufC l C).put i (.u8 x) = some (bufC (l.set i x) C) := by
  show some (AV.agg ((l.map AV.u8 ++ List.replicate (C - l.length) AV.hole).set i (.u8 x))) = _
  rw [List.set_append_left _ _ (by simpa using h)]
  show _ = some (AV.agg ((l.set i x).map AV.u8 ++ List.replicate (C - (l.set i x).length) AV.hole))
  rw [List.length_set, List.map_set]
theorem live_len {l : List UInt8} {L o : Nat} (hL : L ≤ l.length) : ((l.take L).drop o).length = L - o := by simp; omega
theorem live_all {l : List UInt8} {L : Nat} : (l.take L).drop L = [] := by simp
theorem live_reset (l s : List UInt8) (L : Nat) : (l.take L).drop L ++ s = ((wrB l 0 s).take (0 + s.length)).drop 0 := by
  rw [wrB_live s (Nat.zero_le _) (Nat.le_refl _), live_all]; simp
theorem live_slide {l : List UInt8} {L o : Nat} (s : List UInt8) (ho : o ≤ L) (hL : L ≤ l.length) : (l.take L).drop o ++ s = ((wrB (mvB l o L) (L - o) s).take (L - o + s.length)).drop 0 := by
  rw [wrB_live s (by rw [mvB_len ho hL]; omega) (Nat.zero_le _), mvB_live ho hL]; rfl
theorem live_new {l : List UInt8} {L o K : Nat} (s : List UInt8) (ho : o ≤ L) (hL : L ≤ l.length) (hK : L - o ≤ K) :
    (l.take L).drop o ++ s = ((wrB ((l.take L).drop o ++ List.replicate (K - (L - o)) 0) (L - o) s).take (L - o + s.length)).drop 0 := by
  have h2 : ((l.take L).drop o ++ List.replicate (K - (L - o)) (0 : UInt8)).take (L - o) = (l.take L).drop o := by
    rw [List.take_append_of_le_length (Nat.le_of_eq (live_len hL).symm), List.take_of_length_le (Nat.le_of_eq (live_len hL))]
  rw [wrB_live s (by rw [newl_len ho hL hK]; exact hK) (Nat.zero_le _), h2]; rfl
theorem live_first (s : List UInt8) : s = ((wrB z64 0 s).take s.length).drop 0 := by
  have := wrB_live (l := z64) (m := 0) (o := 0) s (Nat.zero_le _) (Nat.le_refl _)
  rw [Nat.zero_add] at this
  rw [this]; simp
theorem pad_list {l : List UInt8} {C : Nat} : (bufC l C).list = (AV.aggB l).list ++ List.replicate (C - (AV.aggB l).list.length) .hole := by
  rw [bufC_list]
  show _ = l.map AV.u8 ++ List.replicate (C - (l.map AV.u8).length) .hole
  rw [List.length_map]
theorem full_list {l : List UInt8} {C : Nat} (h : C ≤ l.length) : (bufC l C).list = (AV.aggB l).list := by
  rw [bufC_list, show C - l.length = 0 by omega, List.replicate_zero, List.append_nil]; rfl
/-- A block's content told in other words. -/
theorem Ev.cont {P : Program} {nt : Nat} {c : Code} {T : List (Nat × AV)} {H : List (Nat × Option ABlk)} {nx : Nat} {post : Exit → St → Prop} {b : Nat} {k : ABlk} (c2 : AV) (hb : hget H b = some k) (hown : k.own = true) (hc : c2.list = k.c.list) (h : Ev P nt c ⟨T, (b, some ⟨c2, k.elem, true⟩) :: H, nx⟩ post) (hmm : k.c.isMap = false := by first | rfl | assumption) (hm2 : c2.isMap = false := by first | rfl | assumption) : Ev P nt c ⟨T, H, nx⟩ post := by
  intro E S n0 a w hn hR
  have hup : ∀ q, hget ((b, some (⟨c2, k.elem, true⟩ : ABlk)) :: H) q = if q = b then some ⟨c2, k.elem, true⟩ else hget H q := fun q => by
    have e1 := upd_one b (some (⟨c2, k.elem, true⟩ : ABlk)) (hget H) q
    rw [upd_hget] at e1; exact e1
  have old : ∀ q k', hget ((b, some (⟨c2, k.elem, true⟩ : ABlk)) :: H) q = some k' → ∃ k0, hget H q = some k0 ∧ k0.own = k'.own := fun q k' hk => by
    rw [hup] at hk
    split at hk
    · rename_i e; subst e; injection hk with hk; subst hk; exact ⟨_, hb, hown⟩
    · exact ⟨_, hk, rfl⟩
  refine h E S n0 a w hn ⟨hR.rt, hR.nt, hR.df, ⟨fun q k' hk => ?_, fun q q' k1 k2 p s1 s2 k3 k4 k5 k6 k7 => ?_, fun q k1 p s1 k3 k4 k5 => ?_, fun a1 L1 s9 ha => ⟨(hR.rh.deep a1 L1 s9 ha).1, fun q k' s2 k3 k4 k5 => ?_⟩⟩, hR.fr, hR.gl, hR.hS, hR.h0⟩
  rotate_left 3
  · obtain ⟨k1', u1, u2⟩ := old _ _ k3
    exact (hR.rh.deep a1 L1 s9 ha).2 q k1' s2 u1 (u2.trans k4) k5
  rotate_right 3
  · rw [hup] at hk
    split at hk
    · rename_i e; subst e; injection hk with hk; subst hk
      obtain ⟨l, s, h1, arr, tq, fz, g1, g2, g3, g4, g5⟩ := hR.rh.blkR hb hmm
      refine ⟨l, s, h1, .row hm2 ⟨arr, tq, fz, g1, g2, ⟨⟨fun _ => g3.1.w hown, g3.1.z, fun h => by cases h⟩, ?_⟩, by show c2.list.length ≤ s; rw [hc]; exact g4, fun j x hx => g5 j x (by rw [← hc]; exact hx)⟩⟩
      rcases g3.2 with h | ⟨h, _⟩ | h
      · exact .inl h
      · exact .inr (.inl ⟨h, .inl rfl⟩)
      · exact .inr (.inr h)
    · exact hR.rh.blk q k' hk
  · obtain ⟨k1', u1, u2⟩ := old _ _ k3
    obtain ⟨k2', u3, u4⟩ := old _ _ k4
    exact hR.rh.inj q q' k1' k2' p s1 s2 u1 u3 (u2.trans k5) k6 k7
  · obtain ⟨k1', u1, u2⟩ := old _ _ k3
    exact hR.rh.own q k1' p s1 u1 (u2.trans k4) k5
end Go.Proofs.YtpmoonglbcglaaaDoor
