/-
  Texts of this claim.
-/
import Derived.Lib.AppendZeros
import Derived.Laws.CopyRow
import Derived.Laws.IdiomCopy
import Derived.Lib.Walk
import Derived.Lib.ByteType
import Derived.Lib.Buffer
import Derived.Shelf.Abstract
import Derived.WalkKit
import Derived.WalkSpells
import Derived.WalkLawsBesides
import Derived.OwnWalk
import Derived.Defers
import Derived.Recover
import Derived.Test.YtdhpfkojodgadaaDoorGE
namespace Go.Proofs.YtdhpfkojodgadaaDoor
open Go.RowKit
theorem info_byte : (Tryd.prog.info? 5).map (fun i => (i.zero, i.size, i.bytes)) = some (some (.int .u8 0), 1, 1) := by kernel_rfl
/-- What growSlice defers finds nothing. -/
theorem grow_idle (w : World) : CallsD Tryd.prog 35 #[] .returning w fun e u' w' => e = .returned (.tuple #[]) ∧ u' = .returning ∧ w' = w := by
  have hnn : ∀ w, (binOp .neq 20 .nilIface .nilIface).run Tryd.prog w = .ok (.bool false) w := fun w => Lib.run_neq_nil_nil w Tryd.underlying20
  refine callsD_of_wpS Tryd.func35 rfl fun c₀ cs hu => ?_
  apply wpS_seq
  apply wpS_region
  simp [wpOpsS, go_sem, recoverD, hu, hnn, Tryd.ntmps35, Exit.thenS]
  refine wpS_cond (t := false) (by simp [Act.eval, Array.replicate]) ?_
  simp only [Bool.false_eq_true, if_false]
  refine wpS_of_wp (wp_skip ?_)
  cases c₀
  simp_all [bodyPostS, results]
theorem cells_part {w : World} {g o : Nat} {cur : Array Value} {T : TypeId} {fr : Nat × Nat} (hg : w.heap[g]? = some (.cells cur T fr)) (l : Nat) :
    ∀ j v, ((cur.toList.drop o).take l)[j]? = some v → w.cell? ((⟨g, o, none⟩ : Addr).add j) = some v := by
  intro j v hj
  rw [add_at, cell_of_row w g (o + j) cur T fr hg]
  rw [List.getElem?_take] at hj
  split at hj
  · simpa using hj
  · cases hj
set_option maxHeartbeats 6400000 in
set_option maxRecDepth 100000 in
theorem growSlice_part (g o l c n : Nat) (cur : Array Value) (fz : Nat × Nat) (w : World) (hg : w.heap[g]? = some (.cells cur 5 fz)) (hlo : o + l ≤ cur.size) (hlc : l ≤ c) (hn : 1 ≤ n)
  (hlim : l + n ≤ 1000000000) (hc2 : c ≤ 1000000000) (h1 : ∀ v ∈ (cur.toList.drop o).take l, v.oneCell' = true) :
  Calls Tryd.prog 34 #[.slice (some ⟨g, o, none⟩) l c, .int .i64 n] w fun e w' => ∃ cap2 cells, e = .returned (.slice (some ⟨w.heap.size, 0, none⟩) l cap2) ∧ w'.heap[w.heap.size]? = some (.cells cells 5 (0, 0)) ∧
   cells.size = cap2 ∧ cells.toList = (cur.toList.drop o).take l ++ List.replicate (cap2 - l) (.int .u8 0) ∧ max (l + n) (2 * c) ≤ cap2 ∧ cap2 ≤ maxLen ∧ Below w.heap.size w w' := by
 obtain ⟨i0, hi, hz0, hz1, hz2⟩ := info_parts info_byte
 have hsz1 : (Tryd.prog.info? 5).map (·.size) = some 1 := by rw [hi]; simp [hz1]
 have key : ∀ K : Nat, K = max (l + n) (2 * c) → ∃ cap2 Z, (Builtin.append_ #[56, 3] 56 #[.slice none 0 0, .int .i64 K]).run Tryd.prog w = .ok (.slice (some ⟨w.heap.size, 0, none⟩) K cap2) (w.alloc (.cells Z 5)).drew ∧ K ≤ cap2 ∧ cap2 ≤ maxLen ∧ Z.size = cap2 ∧ Z.toList = List.replicate cap2 (.int .u8 0) := fun K hK => by
  have happ := Lib.run_append_nil_zeros (P := Tryd.prog) w 56 3 56 5 i0 (.int .u8 0) .i64 .i64 Tryd.underlying56 Tryd.underlying3 hi hz0 K (by omega) (by omega) (by omega) (by rw [hz2]; omega)
  refine ⟨grownCap w K 0 5, _, happ, grownCap_ge w _ 0 _, grownCap_le_maxLen w _ 0 _ (by unfold maxLen; omega), ?_, ?_⟩
  ·have := grownCap_ge w K 0 5
   simp [size_zeroCells, Value.cells]; omega
  ·have := grownCap_ge w K 0 5
   have h2 : ∀ m, (Builtin.zeroCells (Value.int .u8 0).cells m).toList = List.replicate m (.int .u8 0) := fun m => by
    refine List.ext_getElem? fun j => ?_
    simp only [Builtin.zeroCells, Value.cells, Array.toList_map, Array.toList_range, List.getElem?_map, List.getElem?_replicate]
    by_cases hj : j < m
    ·simp [hj, Nat.mod_one]
    ·simp [hj]
   rw [Array.toList_append, h2, h2, List.replicate_append_replicate]
   congr 1; omega
 obtain ⟨cap2, Z, happ, hge, hle, hZs, hZl⟩ := key _ rfl
 have hgl := Lib.lt_of_heap hg
 have hxl : ((cur.toList.drop o).take l).length = l := by rw [List.length_take, List.length_drop, Array.length_toList]; omega
 obtain ⟨xs, hxs⟩ : ∃ xs, xs = (cur.toList.drop o).take l := ⟨_, rfl⟩
 have hcp := cells_part (o := o) (show (w.alloc (.cells Z 5)).drew.heap[g]? = some (.cells cur 5 fz) by show (w.alloc (.cells Z 5)).heap[g]? = _; rw [RowKit.Below.heap_alloc w _ g hgl]; exact hg) l
 rw [← hxs] at hcp h1 hxl ⊢
 by_cases hC : l + n < 2 * c
 ·rw [show max (l + n) (2 * c) = 2 * c by omega] at happ hge ⊢
  rw [show (((2 * c : Nat)) : Int) = 2 * (c : Int) by omega] at happ
  have hcopy := run_copy_row (P := Tryd.prog) (w.alloc (.cells Z 5)).drew 56 56 3 5 w.heap.size 0 (2 * c) cap2 ⟨g, o, none⟩ l c Z 5 xs Tryd.underlying56 hsz1 (heap_alloc_new w _) (by rw [hxl]; exact (Nat.min_eq_left (by omega)).symm) hcp (by rw [hxl]; omega) h1
  rw [hxl] at hcopy
  generalize hY : (Z.toList.take 0 ++ xs ++ Z.toList.drop (0 + l)).toArray = Y at hcopy
  go_enter_defers Tryd.func34, Tryd.ntmps34
  go_wp2_with (at_builtin; refine Lib.wpList_append_run _ rfl _ _ _ _ rfl _ _ rfl rfl _ _ happ ?_)
  refine leaves_cons (f := 35) (args := #[]) (by simp) (enters_of Tryd.func35 (by kernel_rfl) rfl _ _) ?_
  refine (grow_idle _).mono ?_
  rintro e u' w'' ⟨rfl, rfl, rfl⟩
  refine ⟨_, results_tmp rfl _ _ _, ?_⟩
  have hYl : Y.toList = xs ++ Z.toList.drop l := by rw [← hY]; simp
  refine ⟨cap2, Y, rfl, setRow_heap _ _ Z Y 5 (0, 0) (heap_alloc_new w _), ?_, ?_, by omega, hle, ?_⟩
  ·have : Y.toList.length = cap2 := by rw [hYl, List.length_append, hxl, List.length_drop, Array.length_toList, hZs]; omega
   simpa using this
  ·rw [hYl, hZl, List.drop_replicate]
  ·exact ⟨rfl, rfl, rfl, by simp, fun k hk => by rw [setRow_other _ _ _ _ (by omega)]; exact Below.heap_alloc w _ k hk⟩
 ·rw [show max (l + n) (2 * c) = l + n by omega] at happ hge ⊢
  rw [show (((l + n : Nat)) : Int) = (l : Int) + (n : Int) by omega] at happ
  have hcopy := run_copy_row (P := Tryd.prog) (w.alloc (.cells Z 5)).drew 56 56 3 5 w.heap.size 0 (l + n) cap2 ⟨g, o, none⟩ l c Z 5 xs Tryd.underlying56 hsz1 (heap_alloc_new w _) (by rw [hxl]; exact (Nat.min_eq_left (by omega)).symm) hcp (by rw [hxl]; omega) h1
  rw [hxl] at hcopy
  generalize hY : (Z.toList.take 0 ++ xs ++ Z.toList.drop (0 + l)).toArray = Y at hcopy
  go_enter_defers Tryd.func34, Tryd.ntmps34
  go_wp2_with (at_builtin; refine Lib.wpList_append_run _ rfl _ _ _ _ rfl _ _ rfl rfl _ _ happ ?_)
  refine leaves_cons (f := 35) (args := #[]) (by simp) (enters_of Tryd.func35 (by kernel_rfl) rfl _ _) ?_
  refine (grow_idle _).mono ?_
  rintro e u' w'' ⟨rfl, rfl, rfl⟩
  refine ⟨_, results_tmp rfl _ _ _, ?_⟩
  have hYl : Y.toList = xs ++ Z.toList.drop l := by rw [← hY]; simp
  refine ⟨cap2, Y, rfl, setRow_heap _ _ Z Y 5 (0, 0) (heap_alloc_new w _), ?_, ?_, by omega, hle, ?_⟩
  ·have : Y.toList.length = cap2 := by rw [hYl, List.length_append, hxl, List.length_drop, Array.length_toList, hZs]; omega
   simpa using this
  ·rw [hYl, hZl, List.drop_replicate]
  ·exact ⟨rfl, rfl, rfl, by simp, fun k hk => by rw [setRow_other _ _ _ _ (by omega)]; exact Below.heap_alloc w _ k hk⟩
end Go.Proofs.YtdhpfkojodgadaaDoor
