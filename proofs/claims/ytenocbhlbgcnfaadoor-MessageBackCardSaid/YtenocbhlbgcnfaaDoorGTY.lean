/-
  Texts of this claim.
-/
import Derived.Test.YtenocbhlbgcnfaaDoorGTU
import Derived.Test.YtenocbhlbgcnfaaDoorGTE
import Derived.Test.YtenocbhlbgcnfaaDoorGTV
import Derived.Test.YtenocbhlbgcnfaaDoorGTS
namespace Go.Proofs.YtenocbhlbgcnfaaDoor
open Go.RowKit
end Go.Proofs.YtenocbhlbgcnfaaDoor
namespace Go.Proofs.YtenocbhlbgcnfaaDoor
open Go.RowKit
theorem StLe.freezeB {nt : Nat} {T : List (Nat × AV)} {H : List (Nat × Option ABlk)} {nx cb i b o n z e ec : Nat} {oc : Bool} {cs : List AV} {c : AV} (hn : 1000 ≤ nx) (hcb : hget H cb = some ⟨.agg cs, ec, oc⟩) (hi : cs[i]? = some (.sl b o n z)) (hb : hget H b = some ⟨c, e, true⟩) (hne : cb ≠ b) (hl : o + n * z ≤ c.list.length) (hst : ∀ x ∈ c.list, x.still = true) (hmm : c.isMap = false := by first | rfl | assumption | exact AV.map_parts (by assumption)) :
    StLe nt ⟨T, H, nx⟩ ⟨T, (cb, some ⟨.agg (cs.set i (.fsl ((c.list.drop o).take (n * z)) n z)), ec, oc⟩) :: (b, none) :: H, nx⟩ := by
  refine ⟨hn, fun E S n0 a w hR => ?_⟩
  obtain ⟨q, s, h1, arr, tq, fz, g1, g2, _, _, g5⟩ := hR.rh.blkR hb hmm
  have hd : E.d q = none := by
    cases hq : E.d q with
    | none => rfl
    | some p => exact absurd h1 ((hR.rh.deep q p.1 p.2 hq).2 b _ s hb rfl)
  have hlen : ((c.list.drop o).take (n * z)).length = n * z := by rw [List.length_take, List.length_drop]; omega
  have hle : E.le ⟨E.f, fun p => if p = q then some (fun i => arr[i]?, s) else E.d p⟩ := ⟨fun _ _ h => h, fun p r hp => by
    show (if p = q then some (fun i => arr[i]?, s) else E.d p) = some r
    rw [if_neg (fun h => by rw [h, hd] at hp; cases hp)]; exact hp⟩
  have hrel : ∀ y, Rel E (.sl b o n z) y → Rel ⟨E.f, fun p => if p = q then some (fun i => arr[i]?, s) else E.d p⟩ (.fsl ((c.list.drop o).take (n * z)) n z) y := fun y hy => by
    rcases hy.sl_inv with ⟨l1, s1, cp, q1, q2, q3, q4, q5⟩ | ⟨ad, q1, q5⟩
    · rw [h1] at q1; injection q1 with q1; injection q1 with e1 e2; subst e1; subst e2
      rw [q5]
      refine .fsl _ _ _ (fun i => arr[i]?) (fun i => (arr[o + i]?).getD default) q o cp s (if_pos rfl) hlen (fun x hx => hst x (List.mem_of_mem_drop (List.mem_of_mem_take hx))) (fun k hk => ?_) (fun k v hk => ?_) q2 q3 (by omega)
      · rw [hlen] at hk
        obtain ⟨_, y, p1, _⟩ := g5 (o + k) _ (List.getElem?_eq_getElem (show o + k < c.list.length by omega))
        show arr[o + k]? = _
        rw [p1]; rfl
      · rw [List.getElem?_take] at hk
        split at hk
        · rw [List.getElem?_drop] at hk
          obtain ⟨_, y, p1, p2⟩ := g5 (o + k) v hk
          show Rel _ v ((arr[o + k]?).getD default)
          rw [p1]; exact p2.mono hle
        · cases hk
    · rw [q5]
      subst q1
      rw [show ((c.list.drop o).take (0 * z)) = [] by rw [Nat.zero_mul, List.take_zero]]
      exact .fsl0 z ad
  have hup : ∀ m, hget ((cb, some ⟨.agg (cs.set i (.fsl ((c.list.drop o).take (n * z)) n z)), ec, oc⟩) :: (b, none) :: H) m = if m = cb then some ⟨.agg (cs.set i (.fsl ((c.list.drop o).take (n * z)) n z)), ec, oc⟩ else if m = b then none else hget H m := fun m => by
    have e1 := upd_one cb (some (⟨.agg (cs.set i (.fsl ((c.list.drop o).take (n * z)) n z)), ec, oc⟩ : ABlk)) (hget ((b, none) :: H)) m
    rw [upd_hget] at e1
    have e2 := upd_one b none (hget H) m
    rw [upd_hget] at e2
    exact e1.trans (by rw [show hget ((b, none) :: H) m = if m = b then none else hget H m from e2])
  have hsub : ∀ m k, hget ((cb, some ⟨.agg (cs.set i (.fsl ((c.list.drop o).take (n * z)) n z)), ec, oc⟩) :: (b, none) :: H) m = some k → m ≠ b ∧ ∃ k0, hget H m = some k0 ∧ k0.own = k.own := fun m k h => by
    rw [hup] at h
    split at h
    · rename_i e0; injection h with h; subst h; rw [e0]; exact ⟨hne, _, hcb, rfl⟩
    · split at h
      · cases h
      · rename_i h0; exact ⟨h0, k, h, rfl⟩
  refine ⟨⟨E.f, fun p => if p = q then some (fun i => arr[i]?, s) else E.d p⟩, ⟨fun _ _ => rfl, fun p => ?_⟩, fun t' v ht' => (hR.rt t' v ht').mono hle, hR.nt, hR.df, ⟨fun m k hk => ?_, fun m m' k k' l1 s1 s2 q1 q2 q3 q4 q5 => ?_, fun m k l1 s1 q1 q2 q3 => ?_, fun p L' s1 hp => ?_⟩, hR.fr, hR.gl, hR.hS, hR.h0⟩
  · by_cases c : p = q
    · subst c; exact .inr ⟨hd, hR.rh.own b _ p s hb rfl h1⟩
    · exact .inl (if_neg c)
  · rw [hup] at hk
    split at hk
    · rename_i e0; injection hk with hk; subst hk; subst e0
      obtain ⟨l1, s1, q1, arr2, t2, fz2, r1, r2, ⟨r3, r4⟩, r5, r6⟩ := hR.rh.blkR hcb rfl
      refine ⟨l1, s1, q1, .row rfl ⟨arr2, t2, fz2, r1, r2, ⟨⟨r3.w, r3.z, fun x y u => ?_⟩, r4⟩, ?_, fun j x hx => ?_⟩⟩
      · have := r3.f x y u
        refine ⟨this.1, ?_⟩
        show (cs.set i _).length ≤ _
        rw [List.length_set]; exact this.2
      · show (cs.set i _).length ≤ _
        rw [List.length_set]; exact r5
      · replace hx : (cs.set i (.fsl ((c.list.drop o).take (n * z)) n z))[j]? = some x := hx
        rw [List.getElem?_set] at hx
        split at hx
        · rename_i ej
          subst ej
          split at hx
          · injection hx with hx; subst hx
            obtain ⟨_, y, u1, u2⟩ := r6 i _ hi
            exact ⟨rfl, y, u1, hrel y u2⟩
          · cases hx
        · obtain ⟨u0, y, u1, u2⟩ := r6 j x hx
          exact ⟨u0, y, u1, u2.mono hle⟩
    · split at hk
      · cases hk
      · obtain ⟨l1, s1, q1, q2⟩ := hR.rh.blk m k hk
        exact ⟨l1, s1, q1, q2.mono hle rfl⟩
  · obtain ⟨_, k0, u1, u2⟩ := hsub _ _ q1
    obtain ⟨_, k1, u3, _⟩ := hsub _ _ q2
    exact hR.rh.inj m m' k0 k1 l1 s1 s2 u1 u3 (u2.trans q3) q4 q5
  · obtain ⟨_, k0, u1, u2⟩ := hsub _ _ q1
    exact hR.rh.own m k0 l1 s1 u1 (u2.trans q2) q3
  · by_cases c : p = q
    · subst c
      have hp' : (if p = p then some (fun i => arr[i]?, s) else E.d p) = some (L', s1) := hp
      rw [if_pos rfl] at hp'; injection hp' with hp'; injection hp' with e1 e2; subst e1; subst e2
      refine ⟨⟨arr, tq, fz, g1, g2, fun i x hx => hx⟩, fun m k s2 q1 q2 q3 => ?_⟩
      obtain ⟨u0, k0, u1, _⟩ := hsub _ _ q1
      exact u0 (hR.rh.inj b m _ k0 p s s2 hb u1 rfl h1 q3).symm
    · have hp' : (if p = q then some (fun i => arr[i]?, s) else E.d p) = some (L', s1) := hp
      rw [if_neg c] at hp'
      refine ⟨(hR.rh.deep p L' s1 hp').1, fun m k s2 q1 q2 => ?_⟩
      obtain ⟨_, k0, u1, u2⟩ := hsub _ _ q1
      exact (hR.rh.deep p L' s1 hp').2 m k0 s2 u1 (u2.trans q2)
/-- Cells of a block, said more weakly. -/
theorem StLe.weakB {nt : Nat} {T : List (Nat × AV)} {H : List (Nat × Option ABlk)} {nx cb ec : Nat} {oc : Bool} {cs cs' : List AV} (hn : 1000 ≤ nx) (hcb : hget H cb = some ⟨.agg cs, ec, oc⟩) (hlen : cs'.length = cs.length) (hw : ∀ (i : Nat) x x', cs[i]? = some x → cs'[i]? = some x' → x'.cell = true ∧ ∀ E y, Rel E x y → Rel E x' y) :
    StLe nt ⟨T, H, nx⟩ ⟨T, (cb, some ⟨.agg cs', ec, oc⟩) :: H, nx⟩ := by
  refine ⟨hn, fun E S n0 a w hR => ?_⟩
  have hup : ∀ m, hget ((cb, some ⟨.agg cs', ec, oc⟩) :: H) m = if m = cb then some ⟨.agg cs', ec, oc⟩ else hget H m := fun m => by
    have e1 := upd_one cb (some (⟨.agg cs', ec, oc⟩ : ABlk)) (hget H) m
    rw [upd_hget] at e1; exact e1
  have hsub : ∀ m k, hget ((cb, some ⟨.agg cs', ec, oc⟩) :: H) m = some k → ∃ k0, hget H m = some k0 ∧ k0.own = k.own := fun m k h => by
    rw [hup] at h
    split at h
    · rename_i e0; injection h with h; subst h; rw [e0]; exact ⟨_, hcb, rfl⟩
    · exact ⟨k, h, rfl⟩
  refine ⟨E, Emb.kp_refl _ _, hR.rt, hR.nt, hR.df, ⟨fun m k hk => ?_, fun m m' k k' l1 s1 s2 q1 q2 q3 q4 q5 => ?_, fun m k l1 s1 q1 q2 q3 => ?_, fun p L' s1 hp => ?_⟩, hR.fr, hR.gl, hR.hS, hR.h0⟩
  · rw [hup] at hk
    split at hk
    · rename_i e0; injection hk with hk; subst hk; subst e0
      obtain ⟨l1, s1, q1, arr2, t2, fz2, r1, r2, ⟨r3, r4⟩, r5, r6⟩ := hR.rh.blkR hcb rfl
      have hl1 : (AV.agg cs').list.length = (AV.agg cs).list.length := hlen
      refine ⟨l1, s1, q1, .row rfl ⟨arr2, t2, fz2, r1, r2, ⟨⟨r3.w, r3.z, fun x y u => ⟨(r3.f x y u).1, by rw [hl1]; exact (r3.f x y u).2⟩⟩, r4⟩, by rw [hl1]; exact r5, fun j x hx => ?_⟩⟩
      replace hx : cs'[j]? = some x := hx
      have hj : j < cs.length := by rw [← hlen]; exact (List.getElem?_eq_some_iff.1 hx).1
      obtain ⟨_, y, u1, u2⟩ := r6 j _ (show cs[j]? = some cs[j] from List.getElem?_eq_getElem hj)
      obtain ⟨v1, v2⟩ := hw j _ x (List.getElem?_eq_getElem hj) hx
      exact ⟨v1, y, u1, v2 E y u2⟩
    · exact hR.rh.blk m k hk
  · obtain ⟨k0, u1, u2⟩ := hsub _ _ q1
    obtain ⟨k1, u3, _⟩ := hsub _ _ q2
    exact hR.rh.inj m m' k0 k1 l1 s1 s2 u1 u3 (u2.trans q3) q4 q5
  · obtain ⟨k0, u1, u2⟩ := hsub _ _ q1
    exact hR.rh.own m k0 l1 s1 u1 (u2.trans q2) q3
  · refine ⟨(hR.rh.deep p L' s1 hp).1, fun m k s2 q1 q2 => ?_⟩
    obtain ⟨k0, u1, u2⟩ := hsub _ _ q1
    exact (hR.rh.deep p L' s1 hp).2 m k0 s2 u1 (u2.trans q2)
/-- A row of five, of which slices may be nil: as slices that lie still. -/
theorem weak5 {k x1 x2 x3 x4 y1 y2 y3 y4 : AV} (hk : k.cell = true) (c1 : y1.cell = true) (c2 : y2.cell = true) (c3 : y3.cell = true) (c4 : y4.cell = true) (h1 : ∀ E y, Rel E x1 y → Rel E y1 y) (h2 : ∀ E y, Rel E x2 y → Rel E y2 y) (h3 : ∀ E y, Rel E x3 y → Rel E y3 y) (h4 : ∀ E y, Rel E x4 y → Rel E y4 y) :
    ∀ (i : Nat) x x', ([k, x1, x2, x3, x4] : List AV)[i]? = some x → ([k, y1, y2, y3, y4] : List AV)[i]? = some x' → x'.cell = true ∧ ∀ E y, Rel E x y → Rel E x' y := by
  intro i x x' hx hx'
  match i, hx, hx' with
  | 0, hx, hx' => injection hx with hx; injection hx' with hx'; subst hx; subst hx'; exact ⟨hk, fun _ _ h => h⟩
  | 1, hx, hx' => injection hx with hx; injection hx' with hx'; subst hx; subst hx'; exact ⟨c1, h1⟩
  | 2, hx, hx' => injection hx with hx; injection hx' with hx'; subst hx; subst hx'; exact ⟨c2, h2⟩
  | 3, hx, hx' => injection hx with hx; injection hx' with hx'; subst hx; subst hx'; exact ⟨c3, h3⟩
  | 4, hx, hx' => injection hx with hx; injection hx' with hx'; subst hx; subst hx'; exact ⟨c4, h4⟩
  | i + 5, hx, _ => simp at hx
end Go.Proofs.YtenocbhlbgcnfaaDoor
namespace Go.Proofs.YtenocbhlbgcnfaaDoor
open Go.RowKit
theorem StLe.trans {nt : Nat} {a b c : St} (h1 : StLe nt a b) (h2 : StLe nt b c) : StLe nt a c := ⟨h2.1, fun E S n0 x w hR => by
  obtain ⟨E2, g1, g2⟩ := h1.2 E S n0 x w hR
  obtain ⟨E3, g3, g4⟩ := h2.2 E2 S n0 x w g2
  exact ⟨E3, g1.trans g3, g4⟩⟩
theorem StLe.hcongr {nt : Nat} {T : List (Nat × AV)} {H H2 : List (Nat × Option ABlk)} {nx : Nat} (hn : 1000 ≤ nx) (h : hget H = hget H2) : StLe nt ⟨T, H, nx⟩ ⟨T, H2, nx⟩ :=
  ⟨hn, fun E _S _n0 _a _w hR => ⟨E, Emb.kp_refl _ _, hR.rt, hR.nt, hR.df, h ▸ hR.rh, hR.fr, hR.gl, hR.hS, hR.h0⟩⟩
/-- A list in a row's cell, nil or one's own, is made still. -/
theorem StLe.freezeO {nt : Nat} {T : List (Nat × AV)} {H : List (Nat × Option ABlk)} {nx cb i b n ec : Nat} {e : TypeId} {oc : Bool} {cs : List AV} {c : AV} (hn : 1000 ≤ nx) (hcb : hget H cb = some ⟨.agg cs, ec, oc⟩) (hi : cs[i]? = some (slO b n 1)) (hb : hget H b = opt c n e) (hne : cb ≠ b) (hl : c.list.length = n) (hst : ∀ x ∈ c.list, x.still = true) (hce : ∀ x ∈ cs, x.cell = true) (hmm : c.isMap = false := by first | rfl | assumption | exact AV.map_parts (by assumption)) :
    StLe nt ⟨T, H, nx⟩ ⟨T, (cb, some ⟨.agg (cs.set i (.fsl c.list n 1)), ec, oc⟩) :: (b, none) :: H, nx⟩ := by
  cases n with
  | zero =>
    have hc : c.list = [] := List.eq_nil_of_length_eq_zero hl
    rw [hc]
    have hlt : i < cs.length := (List.getElem?_eq_some_iff.1 hi).1
    refine (StLe.weakB (cs' := cs.set i (.fsl [] 0 1)) hn hcb (by simp) (fun j x x' hx hx' => ?_)).trans (StLe.hcongr hn (funext fun m => ?_))
    · rw [List.getElem?_set] at hx'
      split at hx'
      · rename_i hij
        subst hij
        try rw [if_pos hlt] at hx'
        injection hx' with hx'; subst hx'
        rw [hi] at hx; injection hx with hx; subst hx
        exact ⟨rfl, fun E y h => nil_fsl 1 E y h⟩
      · rw [hx] at hx'; injection hx' with hx'; subst hx'
        exact ⟨hce x (List.mem_of_getElem? hx), fun _ _ h => h⟩
    · have e1 := upd_one cb (some (⟨.agg (cs.set i (.fsl [] 0 1)), ec, oc⟩ : ABlk)) (hget ((b, none) :: H)) m
      have e3 := upd_one cb (some (⟨.agg (cs.set i (.fsl [] 0 1)), ec, oc⟩ : ABlk)) (hget H) m
      have e2 := upd_one b none (hget H) m
      rw [upd_hget] at e1 e2 e3
      refine e3.trans (Eq.trans ?_ e1.symm)
      split
      · rfl
      · refine Eq.trans ?_ e2.symm
        split
        · rename_i h0; rw [h0]; exact hb
        · rfl
  | succ q =>
    have h := StLe.freezeB (nt := nt) (T := T) (i := i) (o := 0) (z := 1) (n := q + 1) hn hcb hi hb hne (by omega) hst hmm
    rw [List.drop_zero, Nat.mul_one, List.take_of_length_le (by omega)] at h
    exact h
end Go.Proofs.YtenocbhlbgcnfaaDoor
