/-
  Texts of this claim.
-/
import Derived.Test.YtcnjekoidgefpaaGreatDoorProg
import Derived.WalkSpells
import Derived.WalkLawsBesides
import Derived.Lib.AppendZeros
import Derived.Test.YtcnjekoidgefpaaGreatDoorGXMV
import Derived.Test.YtcnjekoidgefpaaGreatDoorGEV
namespace Go.Proofs.YtcnjekoidgefpaaGreatDoor
open Go.RowKit
def Strs (w : World) (A : Option Addr) (n c : Nat) (ss : List ByteArray) : Prop :=
  ss.length = n ∧ (A = none → n = 0 ∧ c = 0) ∧ ∀ ad, A = some ad → ∀ j u, (ss.map Value.string)[j]? = some u → w.cell? (ad.add j) = some u
theorem Strs.below' {w w' : World} {A : Option Addr} {n c : Nat} {ss : List ByteArray} (h : Strs w A n c ss) (hb : Below w.heap.size w w') : Strs w' A n c ss :=
  ⟨h.1, h.2.1, fun ad e j u hu => (hb.cell (block_lt_of_cell (h.2.2 ad e j u hu))).trans (h.2.2 ad e j u hu)⟩
theorem info9 : (Tryz.prog.info? 9).map (fun i => (i.zero, i.size, i.bytes)) = some (some (.string ByteArray.empty), 1, 16) := by kernel_rfl
theorem rP (v : Value) (n : Nat) : (Builtin.zeroCells #[v] n).size = n := by simp [Builtin.zeroCells]
set_option maxHeartbeats 400000 in
set_option maxRecDepth 100000 in
theorem grow_any (n : Int) (w : World) (h0 : 1 ≤ n) (hn : n ≤ 1000000) :
  Calls Tryz.prog 121 #[.slice none 0 0, .int .i64 n] w fun e w' => ∃ C : Nat, n ≤ C ∧ e = .returned (.slice (some ⟨w.heap.size, 0, none⟩) 0 C) ∧
   w'.ownsRow w.heap.size 9 1 (.slice (some ⟨w.heap.size, 0, none⟩) 0 C) 0 [] ∧ Below w.heap.size w w' := by
 obtain ⟨m, rfl⟩ := Int.eq_ofNat_of_zero_le (show 0 ≤ n by omega)
 obtain ⟨i0, hi, hz0, hz1, hz2⟩ := info_parts info9
 have hge := grownCap_ge w m 0 9
 have hle := grownCap_le_maxLen w m 0 9 (by unfold maxLen; omega)
 have hrun := Lib.run_append_nil_zeros (P := Tryz.prog) w 85 3 85 9 i0 _ .i64 .i64 Tryz.underlying85 Tryz.underlying3 hi hz0 m (by omega) (by omega) (by omega) (by rw [hz2]; omega)
 obtain ⟨C, hC⟩ : ∃ C, C = grownCap w m 0 9 := ⟨_, rfl⟩
 rw [← hC] at hge hle hrun
 have HR := hid hrun
 clear hrun hC
 go_enter Tryz.func121, Tryz.ntmps121
 go_wp2_with (at_builtin; refine Lib.wpList_append_run _ rfl (.tmp 20) (.tmp 21) _ _ rfl _ _ rfl rfl _ _ HR.out ?_)
 go_ret
 exact ⟨C, by omega, rfl, (World.ownsRow_made w _ C (Nat.le_refl _) hle (by rw [Array.size_append, rP, rP]; omega)).drew, ((Below.refl _ _).alloc (Nat.le_refl _) _).drew⟩
set_option maxHeartbeats 1000000 in
set_option maxRecDepth 100000 in
theorem concat_any (b cc : Nat) (A A' : Option Addr) (n m c c' : Nat) (xs ys : List ByteArray) (w : World) (h0 : w.cell? ⟨b, 0, none⟩ = some (.slice A n c)) (h1 : w.cell? ⟨b, 1, none⟩ = some (.slice A' m c'))
  (hx : Strs w A n c xs) (hy : Strs w A' m c' ys) (hpos : 1 ≤ n + m) (hn : n ≤ 100000) (hm : m ≤ 100000) :
  Calls Tryz.prog 103 #[.slice (some ⟨b, 0, none⟩) 2 cc] w fun e w' => ∃ C : Nat, e = .returned (.slice (some ⟨w.heap.size, 0, none⟩) (n + m : Nat) C) ∧ w'.ownsRow w.heap.size 9 1 (.slice (some ⟨w.heap.size, 0, none⟩) (n + m : Nat) C) (n + m) ((xs ++ ys).map Value.string) ∧ Below w.heap.size w w' := by
 obtain ⟨i0, hi, hz0, hz1, hz2⟩ := info_parts info9
 have hbb : b < w.heap.size := block_lt_of_cell h0
 go_enter Tryz.func103, Tryz.ntmps103
 go_wp2
 refine wp_loop_rounds 3 ?_
 rw [rounds_succ]
 go_wp2
 rw [rounds_succ]
 go_wp2
 rw [rounds_succ]
 go_wp2_with fail
 refine (grow_any _ _ (by omega) (by omega)).mono ?_
 rintro e w1 ⟨C, hC, rfl, hown, hb1⟩
 have h0' := (hb1.cell (p := ⟨b, 0, none⟩) hbb).trans h0
 have h1' := (hb1.cell (p := ⟨b, 1, none⟩) hbb).trans h1
 have hx' := hx.below' hb1
 have hy' := hy.below' hb1
 have hlx : (xs.map Value.string).length = n * 1 := by simp [hx.1]
 have hly : (ys.map Value.string).length = m * 1 := by simp [hy.1]
 have h1x : ∀ u ∈ xs.map Value.string, u.oneCell' = true := by intro u hu; simp at hu; obtain ⟨s, _, rfl⟩ := hu; rfl
 have h1y : ∀ u ∈ ys.map Value.string, u.oneCell' = true := by intro u hu; simp at hu; obtain ⟨s, _, rfl⟩ := hu; rfl
 go_wp2
 refine wp_loop_rounds 3 ?_
 rw [rounds_succ]
 go_wp2_with (at_builtin; refine wpList_append_fits_any w1 rfl (.tmp 31) (.tmp 32) 85 rfl w.heap.size 9 i0 1 Tryz.underlying85 hi hz1 w.heap.size 0 C [] rfl hown A n c (xs.map Value.string) rfl hlx hx'.2.1 hx'.2.2 h1x (by omega) ?_; intro w2 hown2 hg2)
 have hb2 : Below w.heap.size w w2 := dJ hb1 hg2 hb1.size (Nat.le_refl _)
 have h1'' := (hb2.cell (p := ⟨b, 1, none⟩) hbb).trans h1
 have hy'' := hy.below' hb2
 simp only [Nat.zero_add, List.nil_append] at hown2
 rw [rounds_succ]
 go_wp2_with (at_builtin; refine wpList_append_fits_any w2 rfl (.tmp 31) (.tmp 32) 85 rfl w.heap.size 9 i0 1 Tryz.underlying85 hi hz1 w.heap.size n C (xs.map Value.string) rfl hown2 A' m c' (ys.map Value.string) rfl hly hy''.2.1 hy''.2.2 h1y (by omega) ?_; intro w3 hown3 hg3)
 have hb3 : Below w.heap.size w w3 := dJ hb2 hg3 hb2.size (Nat.le_refl _)
 rw [rounds_succ]
 go_wp2
 go_ret
 exact ⟨C, rfl, by rw [List.map_append]; exact hown3, hb3⟩
end Go.Proofs.YtcnjekoidgefpaaGreatDoor
namespace Go.Proofs.YtcnjekoidgefpaaGreatDoor
open Go.RowKit
def toBA (s : List UInt8) : ByteArray := ⟨s.toArray⟩
theorem strs_of {E : Emb} {S : Nat → Prop} {F : Hp} {w : World} {b e : Nat} {xs : List (List UInt8)} {y : Value} {ow : Bool} (hR : RH E S F w) (hk : F b = some ⟨.aggS xs, e, ow⟩) (h : Rel E (.sl b 0 xs.length 1) y) :
    ∃ A c, y = .slice A xs.length c ∧ Strs w A xs.length c (xs.map toBA) := by
  obtain ⟨l, s, h1, arr, tt, fz, g1, g2, g3, g4, g5⟩ := hR.blk b _ hk
  rcases h.sl_inv with ⟨l', s', c, q1, q2, q3, q4, q5⟩ | ⟨ad, q1, q2⟩
  · rw [q1] at h1; injection h1 with h1; injection h1 with e1 e2; subst e1; subst e2
    refine ⟨_, c, q5, by simp, (fun h => by cases h), fun ad ha j u hu => ?_⟩
    injection ha with ha; subst ha
    have hj : j < xs.length := by have := (List.getElem?_eq_some_iff.1 hu).1; simpa using this
    have hx : (AV.aggS xs).list[j]? = some (.str xs[j]) := by simp [AV.list, AV.parts, hj]
    obtain ⟨_, yv, r1, r2⟩ := g5 j _ hx
    rw [aT, Nat.zero_add, cell_of_row w l' j arr tt fz g1, r1, r2.str_inv]
    simp only [List.map_map, List.getElem?_map, List.getElem?_eq_getElem hj, Option.map_some, Option.some.injEq] at hu
    rw [← hu]; rfl
  · have hx : xs = [] := List.eq_nil_of_length_eq_zero q1
    subst hx
    exact ⟨ad, 0, q2, rfl, fun _ => ⟨rfl, rfl⟩, fun ad' _ j u hu => by simp at hu⟩
theorem concat_ev (xs ys : List (List UInt8)) (eL e1 e2 : Nat) (hpos : 1 ≤ xs.length + ys.length) (hx : xs.length ≤ 100000) (hy : ys.length ≤ 100000) :
    kZ Tryz.prog 103 [.sl 500 0 2 1] [(500, some ⟨.agg [.sl 501 0 xs.length 1, .sl 502 0 ys.length 1], eL, false⟩), (501, some ⟨.aggS xs, e1, false⟩), (502, some ⟨.aggS ys, e2, false⟩)] (.sl 1000 0 (xs.length + ys.length) 1) [(1000, some ⟨.aggS (xs ++ ys), 9, true⟩)] := by
  intro E S n0 vals w hg hfr hl hr hR hS h0
  obtain ⟨a, rfl, ha⟩ := args1 hl hr
  obtain ⟨l, s, h1, h2⟩ := hR.blk 500 _ rfl
  rcases ha.sl_inv with ⟨l', s', c, q1, q2, q3, q4, q5⟩ | ⟨ad, q1, _⟩
  · rw [q1] at h1; injection h1 with h1; injection h1 with e1 e2; subst e1; subst e2
    obtain ⟨_, y0, c0, r0⟩ := h2.cell (i := 0) (x := .sl 501 0 xs.length 1) rfl
    obtain ⟨_, y1, c1, r1⟩ := h2.cell (i := 1) (x := .sl 502 0 ys.length 1) rfl
    obtain ⟨A, ca, e0, s0⟩ := strs_of hR rfl r0
    obtain ⟨A', ca', e0', s0'⟩ := strs_of hR rfl r1
    subst e0; subst e0'; subst q5
    refine (concat_any l' c A A' xs.length ys.length ca ca' (xs.map toBA) (ys.map toBA) w c0 c1 s0 s0' hpos hx hy).mono fun ed w' hh => ?_
    obtain ⟨C, he, ⟨hlen, hrow⟩, hb⟩ := hh
    rcases hrow with ⟨hq, _⟩ | ⟨g, cap, cur, hv, hbase, hcell, hn, hm, hsz, hval⟩
    · cases hq
    · simp only [Value.slice.injEq, Option.some.injEq, Addr.mk.injEq, true_and, and_true] at hv
      obtain ⟨hv1, hv2⟩ := hv
      subst hv1; subst hv2
      have h1000 : E 1000 = none := hfr 1000 (Nat.le_refl _)
      refine ⟨_, E.put 1000 (w.heap.size, cur.size), he, fun b hb => Emb.put_other _ _ (by omega), .sl _ _ _ _ _ _ _ (Emb.put_same _ _ _) hn hm (by omega), ⟨fun b k hk => ?_, fun b b' k k' l1 s1 s2 k1 k2 k3 k4 k5 => ?_, fun b k l1 s1 k1 k2 k3 => ?_⟩, ⟨hb.os, hb.tape, hb.output, hb.size, fun k hk _ => hb.block k hk⟩⟩
      · have hm := kW hk
        simp only [List.mem_singleton, Prod.mk.injEq, Option.some.injEq] at hm
        obtain ⟨rfl, rfl⟩ := hm
        refine ⟨w.heap.size, cur.size, Emb.put_same _ _ _, cur, 9, (0, 0), hcell, rfl, ⟨FzOk.zero _ _, .inr (.inl ⟨rfl, .inl rfl⟩)⟩, ?_, fun i x hx => ?_⟩
        · simp [AV.list, AV.parts] at hlen ⊢; omega
        · simp only [AV.list, AV.parts, Option.getD_some] at hx
          obtain ⟨q, hq, rfl⟩ := jV hx
          refine ⟨rfl, .string ⟨q.toArray⟩, ?_, .str _⟩
          have hi : i < (xs ++ ys).length := (List.getElem?_eq_some_iff.1 hq).1
          simp only [List.length_append] at hi
          have hv := congrArg (fun l => l[i]?) hval
          simp only [List.getElem?_take] at hv
          rw [if_pos (by omega), ← List.map_append, List.map_map, List.getElem?_map, hq] at hv
          have hq2 : toBA q = (⟨q.toArray⟩ : ByteArray) := rfl
          simpa [hq2] using hv
      · have hm := kW k1
        have hm2 := kW k2
        simp only [List.mem_singleton, Prod.mk.injEq] at hm hm2
        rw [hm.1, hm2.1]
      · have hm := kW k1
        simp only [List.mem_singleton, Prod.mk.injEq] at hm
        rw [hm.1, Emb.put_same] at k3
        injection k3 with k3; injection k3 with k3 _
        rw [← k3]; exact hS _ h0
  · omega
end Go.Proofs.YtcnjekoidgefpaaGreatDoor
