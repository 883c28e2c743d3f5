/-
  slices.Grow of the nil slice, and slices.Concat of two slices of strings, walked.
-/
import Derived.Test.YtghjndcbnnbloaaDoorProg
import Derived.Test.YtghjndcbnnbloaaDoorM
import Derived.WalkSpells
import Derived.WalkLawsBesides
import Derived.Lib.AppendZeros
namespace Go.Proofs.YtghjndcbnnbloaaDoor
open Go.RowKit

/-- The slice at A of n elements holds these strings. -/
def Strs (w : World) (A : Option Addr) (n c : Nat) (ss : List ByteArray) : Prop :=
  ss.length = n ∧ (A = none → n = 0 ∧ c = 0) ∧ ∀ ad, A = some ad → ∀ j u, (ss.map Value.string)[j]? = some u → w.cell? (ad.add j) = some u
theorem block_of_add (a : Addr) (n : Nat) : (a.add n).block = a.block := by unfold Addr.add; split <;> rfl
theorem Strs.below {w w' : World} {A : Option Addr} {n c B : Nat} {ss : List ByteArray} (h : Strs w A n c ss) (hb : Below B w w') (hA : ∀ ad, A = some ad → ad.block < B) : Strs w' A n c ss :=
  ⟨h.1, h.2.1, fun ad e j u hu => (hb.cell (by rw [block_of_add]; exact hA ad e)).trans (h.2.2 ad e j u hu)⟩
theorem Strs.below' {w w' : World} {A : Option Addr} {n c : Nat} {ss : List ByteArray} (h : Strs w A n c ss) (hb : Below w.heap.size w w') : Strs w' A n c ss :=
  ⟨h.1, h.2.1, fun ad e j u hu => (hb.cell (block_lt_of_cell (h.2.2 ad e j u hu))).trans (h.2.2 ad e j u hu)⟩
theorem Strs.cell {w : World} {ad : Addr} {n c : Nat} {ss : List ByteArray} (h : Strs w (some ad) n c ss) (j : Nat) (hj : j < ss.length) : w.cell? (ad.add j) = some (.string ss[j]) :=
  h.2.2 ad rfl j _ (by simp [hj])
theorem Strs.of_own {w : World} {base g C n : Nat} {ss : List ByteArray} (h : w.ownsRow base 9 1 (.slice (some ⟨g, 0, none⟩) n C) n (ss.map Value.string)) : Strs w (some ⟨g, 0, none⟩) n C ss :=
  ⟨by have := h.1; simpa using this, (fun e => by cases e), (fun ad e j u hu => by injection e with e; subst e; exact h.cells (g := g) rfl j u hu)⟩

theorem info9 : (Tryd.prog.info? 9).map (fun i => (i.zero, i.size, i.bytes)) = some (some (.string ByteArray.empty), 1, 16) := by kernel_rfl
theorem size_zeroCells1 (v : Value) (n : Nat) : (Builtin.zeroCells #[v] n).size = n := by simp [Builtin.zeroCells]

set_option maxHeartbeats 400000 in
theorem grow_any (n : Int) (w : World) (h0 : 1 ≤ n) (hn : n ≤ 1000000) :
    Calls Tryd.prog 45 #[.slice none 0 0, .int .i64 n] w fun e w' => ∃ C : Nat, n ≤ C ∧ e = .returned (.slice (some ⟨w.heap.size, 0, none⟩) 0 C) ∧
      w'.ownsRow w.heap.size 9 1 (.slice (some ⟨w.heap.size, 0, none⟩) 0 C) 0 [] ∧ Below w.heap.size w w' := by
  obtain ⟨m, rfl⟩ := Int.eq_ofNat_of_zero_le (show 0 ≤ n by omega)
  obtain ⟨i0, hi, hz0, hz1, hz2⟩ := info_parts info9
  have hge := grownCap_ge w m 0 9
  have hle := grownCap_le_maxLen w m 0 9 (by unfold maxLen; omega)
  have hrun := Lib.run_append_nil_zeros (P := Tryd.prog) w 31 3 31 9 i0 _ .i64 .i64 Tryd.underlying31 Tryd.underlying3 hi hz0 m (by omega) (by omega) (by omega) (by rw [hz2]; omega)
  obtain ⟨C, hC⟩ : ∃ C, C = grownCap w m 0 9 := ⟨_, rfl⟩
  rw [← hC] at hge hle hrun
  have HR := hid hrun
  clear hrun hC
  go_enter Tryd.func45, Tryd.ntmps45
  go_wp2_with (at_builtin; refine Lib.wpList_append_run _ rfl (.tmp 20) (.tmp 21) _ _ rfl _ _ rfl rfl _ _ HR.out ?_)
  go_ret
  exact ⟨C, by omega, rfl, (World.ownsRow_made w _ C (Nat.le_refl _) hle (by rw [Array.size_append, size_zeroCells1, size_zeroCells1]; omega)).drew, ((Below.refl _ _).alloc (Nat.le_refl _) _).drew⟩

set_option maxHeartbeats 1000000 in
theorem concat_any (b : Nat) (A A' : Option Addr) (n m c c' : Nat) (xs ys : List ByteArray) (w : World) (h0 : w.cell? ⟨b, 0, none⟩ = some (.slice A n c)) (h1 : w.cell? ⟨b, 1, none⟩ = some (.slice A' m c'))
    (hx : Strs w A n c xs) (hy : Strs w A' m c' ys) (hpos : 1 ≤ n + m) (hn : n ≤ 100000) (hm : m ≤ 100000) :
    Calls Tryd.prog 33 #[.slice (some ⟨b, 0, none⟩) 2 2] w fun e w' => ∃ g C : Nat, w.heap.size ≤ g ∧ e = .returned (.slice (some ⟨g, 0, none⟩) (n + m : Nat) C) ∧ Strs w' (some ⟨g, 0, none⟩) (n + m) C (xs ++ ys) ∧ Below w.heap.size w w' := by
  obtain ⟨i0, hi, hz0, hz1, hz2⟩ := info_parts info9
  have hbb : b < w.heap.size := block_lt_of_cell h0
  go_enter Tryd.func33, Tryd.ntmps33
  go_wp2
  refine wp_loop_rounds 3 ?_
  rw [rounds_succ]
  go_wp2
  rw [rounds_succ]
  go_wp2
  rw [rounds_succ]
  go_wp2_with fail
  refine (grow_any _ _ (by omega) (by omega)).mono ?_
  rintro e w1 ⟨C, hC, rfl, hown, hb1⟩
  have h0' := (hb1.cell (p := ⟨b, 0, none⟩) hbb).trans h0
  have h1' := (hb1.cell (p := ⟨b, 1, none⟩) hbb).trans h1
  have hx' := hx.below' hb1
  have hy' := hy.below' hb1
  have hlx : (xs.map Value.string).length = n * 1 := by simp [hx.1]
  have hly : (ys.map Value.string).length = m * 1 := by simp [hy.1]
  have h1x : ∀ u ∈ xs.map Value.string, u.oneCell' = true := by intro u hu; simp at hu; obtain ⟨s, _, rfl⟩ := hu; rfl
  have h1y : ∀ u ∈ ys.map Value.string, u.oneCell' = true := by intro u hu; simp at hu; obtain ⟨s, _, rfl⟩ := hu; rfl
  go_wp2
  refine wp_loop_rounds 3 ?_
  rw [rounds_succ]
  go_wp2_with (at_builtin; refine wpList_append_fits_any w1 rfl (.tmp 31) (.tmp 32) 31 rfl w.heap.size 9 i0 1 Tryd.underlying31 hi hz1 w.heap.size 0 C [] rfl hown A n c (xs.map Value.string) rfl hlx hx'.2.1 hx'.2.2 h1x (by omega) ?_; intro w2 hown2 hg2)
  have hb2 : Below w.heap.size w w2 := below_grown hb1 hg2 hb1.size (Nat.le_refl _)
  have h1'' := (hb2.cell (p := ⟨b, 1, none⟩) hbb).trans h1
  have hy'' := hy.below' hb2
  simp only [Nat.zero_add, List.nil_append] at hown2
  rw [rounds_succ]
  go_wp2_with (at_builtin; refine wpList_append_fits_any w2 rfl (.tmp 31) (.tmp 32) 31 rfl w.heap.size 9 i0 1 Tryd.underlying31 hi hz1 w.heap.size n C (xs.map Value.string) rfl hown2 A' m c' (ys.map Value.string) rfl hly hy''.2.1 hy''.2.2 h1y (by omega) ?_; intro w3 hown3 hg3)
  have hb3 : Below w.heap.size w w3 := below_grown hb2 hg3 hb2.size (Nat.le_refl _)
  rw [rounds_succ]
  go_wp2
  go_ret
  exact ⟨w.heap.size, C, Nat.le_refl _, rfl, Strs.of_own (by rw [List.map_append]; exact hown3), hb3⟩
end Go.Proofs.YtghjndcbnnbloaaDoor
