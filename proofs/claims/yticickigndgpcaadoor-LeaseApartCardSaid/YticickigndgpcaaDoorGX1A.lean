/-
  Texts of this claim.
-/
import Derived.DeepKeys4
import Derived.Sort.Walk0
import Derived.Shelf.SlSortCmp.NoneTotal
import Derived.Shelf.SlGeneric
import Derived.Test.YticickigndgpcaaDoorGEA
import Derived.Test.YticickigndgpcaaDoorGL0A
import Derived.Test.YticickigndgpcaaDoorGP1A
namespace Go.Proofs.YticickigndgpcaaDoor
open Go.RowKit
theorem laid_out : laidOutB Tryd.prog = true := by kernel_rfl
theorem nm_law : Maps.Keyed Tryd.prog 84 := Maps.Keyed.of_law (deep_law_laid laid_out (m := 2) (by omega) (by decide +kernel) (by kernel_rfl) (by rw [Tryd.underlying84]))
theorem nm_isS (t a : List UInt8) (ht : t.length ≤ maxLen) (ha : a.length ≤ maxLen) : (keyOf Tryd.prog 84 (nmK t a)).isSome = true := by
  have hk : Tryd.prog.keyType 84 = true := by kernel_rfl
  have hf : (nmK t a).formed Tryd.prog 84 = true := by kernel_rfl
  have hc2 : Tryd.prog.cellsOf 84 = 2 := by kernel_rfl
  have hc1 : Tryd.prog.cellsOf 9 = 1 := by kernel_rfl
  obtain ⟨n, hn⟩ : ∃ n, Tryd.prog.types.size = n + 1 := ⟨191 - 1, by kernel_rfl⟩
  have inner : ∀ s : List UInt8, s.length ≤ maxLen → Tryd.prog.keyLits (n + 1) 9 [.string ⟨s.toArray⟩] = some [.string s] := fun s hs => by
    rw [Program.keyLits.eq_def]
    simp only [Tryd.underlying9]
    rw [if_pos (show (⟨s.toArray⟩ : ByteArray).size ≤ maxLen by simpa [ByteArray.size] using hs)]
  unfold keyOf
  rw [Tryd.underlying84]
  simp only [hk, hf, hn, Bool.and_self, if_true, Option.isSome_map]
  show (Tryd.prog.keyLits (n + 1 + 1) 84 [.string ⟨t.toArray⟩, .string ⟨a.toArray⟩]).isSome = true
  rw [Program.keyLits.eq_def]
  simp only [Tryd.underlying84]
  rw [if_pos ⟨by rw [hc2]; rfl, by kernel_rfl⟩, Option.isSome_map]
  simp only [List.mapM_cons, List.mapM_nil, hc1, List.drop_zero, List.drop_succ_cons, List.take_succ_cons, List.take_zero, inner t ht, inner a ha]
  rfl
theorem nm_val (s t : List UInt8) (E : Emb) (y : Value) (h : Rel E (.agg [.str s, .str t]) y) : y = nmK s t := by
  obtain ⟨ds, rfl, h2, _, h4⟩ := h.agg_inv rfl
  match ds, h2, h4 with
  | ⟨[a, b]⟩, _, h4 =>
    have ha := (h4 0 (.str s) a rfl rfl).str_inv
    have hb := (h4 1 (.str t) b rfl rfl).str_inv
    subst ha; subst hb; rfl
theorem ls_val (x : Ls) (E : Emb) (y : Value) (h : Rel E (lsV x) y) : y = lsW x := by
  obtain ⟨ds, rfl, h2, _, h4⟩ := h.agg_inv (show (lsV x).parts = some x.cs from rfl)
  match ds, h2, h4 with
  | ⟨[x1, x2, x3, x4, x5]⟩, _, h4 =>
    have h1 := (h4 0 (.str x.t) x1 rfl rfl).str_inv
    have h2 := (h4 1 (.str x.a) x2 rfl rfl).str_inv
    have h3 := (h4 2 (.i64 x.o) x3 rfl rfl).i64_inv
    have h5 := (h4 3 (.i64 x.e) x4 rfl rfl).i64_inv
    have h6 := (h4 4 (.i64 x.l) x5 rfl rfl).i64_inv
    subst h1; subst h2; subst h3; subst h5; subst h6; rfl
theorem ls_rel (x : Ls) (E : Emb) : Rel E (lsV x) (lsW x) :=
  .agg _ x.cs _ rfl rfl (fun y hy => by simp only [Ls.cs, List.mem_cons, List.not_mem_nil, or_false] at hy; rcases hy with rfl | rfl | rfl | rfl | rfl <;> rfl) (fun i y z hy hz => by
    match i, hy, hz with
    | 0, hy, hz => injection hy with hy; injection hz with hz; subst hy; subst hz; exact .str _
    | 1, hy, hz => injection hy with hy; injection hz with hz; subst hy; subst hz; exact .str _
    | 2, hy, hz => injection hy with hy; injection hz with hz; subst hy; subst hz; exact .i64 _
    | 3, hy, hz => injection hy with hy; injection hz with hz; subst hy; subst hz; exact .i64 _
    | 4, hy, hz => injection hy with hy; injection hz with hz; subst hy; subst hz; exact .i64 _
    | n + 5, hy, _ => simp [Ls.cs] at hy)
theorem ls_of (x : Ls) (E : Emb) (y : Value) (h : Rel E (.val (lsW x)) y) : Rel E (lsV x) y := by rw [h.val_inv]; exact ls_rel x E
theorem ls_to (x : Ls) (E : Emb) (y : Value) (h : Rel E (lsV x) y) : Rel E (.val (lsW x)) y := by rw [ls_val x E y h]; exact .val _
theorem keysM {M : List (Ls × Nat)} {ck : Nat} {L : List Ls} (h : MI M ck L) {t a : List UInt8} (ht : t.length ≤ maxLen) (ha : a.length ≤ maxLen) : KeysOk Tryd.prog 84 (mKs M) (.agg [.str t, .str a]) (nmK t a) :=
  ⟨nm_law, fun q hq => by
    obtain ⟨p, hp, rfl⟩ := List.mem_map.1 hq
    have := h.sz p.1 (h.perm.mem_iff.1 (List.mem_map.2 ⟨p, hp, rfl⟩))
    exact nm_isS _ _ (by unfold maxLen; omega) (by unfold maxLen; omega), nm_isS t a ht ha, nm_val t a⟩
theorem mVs_at {M : List (Ls × Nat)} {i : Nat} {p : Ls × Nat} (hi : M[i]? = some p) : (mVs M)[i]? = some (.val (lsW p.1)) := by simp [mVs, hi]
theorem keyE {M : List (Ls × Nat)} {ck : Nat} {L : List Ls} (h : MI M ck L) {i b : Nat} {x y : Ls} (hi : M[i]? = some (y, b)) (e : kEq y x) (j : Nat) : (mKs M)[j]? = some (nmK x.t x.a) ↔ j = i := by
  rw [← e.1, ← e.2]; exact h.key hi j
theorem mkLen {s : List UInt8} (h : s.length ≤ 63) : s.length ≤ maxLen := by unfold maxLen; omega
def tickV (n : Int) : Int := min (max n 0) 1099511627776
theorem tick_in (n : Int) : 0 ≤ tickV n ∧ tickV n ≤ 1099511627776 := by unfold tickV; omega
set_option maxRecDepth 100000 in
theorem tick_ev (n : Int) : Meets Tryd.prog 39 [.i64 n] [] (.i64 (tickV n)) [] := by
 refine meets_of_ev (nt := 6) Tryd.func39 rfl rfl (Nat.le_of_ble_eq_true rfl) ?_
 refine .seq ?_
 refine .region ?_
 refine .q (op_assign rfl) trivial rfl ?_
 refine .nil ?_
 show Ev _ _ _ _ _
 refine .seq ?_
 refine .region ?_
 refine .q (op_move rfl) trivial rfl ?_
 refine .q (op_maxI rfl rfl) trivial rfl ?_
 refine .q (op_minI rfl rfl) trivial rfl ?_
 refine .q (op_assign rfl) trivial rfl ?_
 refine .nil ?_
 show Ev _ _ _ _ _
 refine .ret ?_
 show RetOk _ _ _ _ _ _ _
 exact ret1v rfl (.inl rfl) rfl (rfl) trivial
set_option maxRecDepth 100000 in
theorem new_ev (a b c : Int) : Meets Tryd.prog 12 [.agg [.i64 a, .i64 b, .i64 c]] [] (.ptr 1024 0) [(1024, some ⟨.agg [.i64 (min (max a 0) 64), .i64 (min (max b 0) 4096), .i64 (min (max c 1) 1073741824), .mp 1016, .i64 0], 68, true⟩), (1016, some ⟨mpV ([]) (0), 0, true⟩)] := by
 refine meets_of_ev (nt := 21) Tryd.func12 rfl rfl (Nat.le_of_ble_eq_true rfl) ?_
 refine .seq ?_
 refine .region ?_
 refine .a (op_boxRow rfl rfl) trivial rfl ?_
 refine .q (op_assign rfl) trivial rfl ?_
 refine .nil ?_
 show Ev _ _ _ _ _
 refine .seq ?_
 refine .region ?_
 refine .q (op_fieldAddr (m := 0) Tryd.underlying26 rfl (by kernel_rfl) rfl) trivial rfl ?_
 refine .as (.ptr 1000 0) rfl ?_
 refine .q (op_load Tryd.underlying3 rfl rfl rfl rfl (by first | omega | (simp only [AV.len]; omega) | (simp only [AV.len, List.length_set]; omega) | assumption | (simp [AV.len]; done))) trivial rfl ?_
 refine .q (op_maxI rfl rfl) trivial rfl ?_
 refine .q (op_minI rfl rfl) trivial rfl ?_
 refine .q (op_fieldAddr (m := 0) Tryd.underlying26 rfl (by kernel_rfl) rfl) trivial rfl ?_
 refine .as (.ptr 1000 1) rfl ?_
 refine .q (op_load Tryd.underlying3 rfl rfl rfl rfl (by first | omega | (simp only [AV.len]; omega) | (simp only [AV.len, List.length_set]; omega) | assumption | (simp [AV.len]; done))) trivial rfl ?_
 refine .q (op_maxI rfl rfl) trivial rfl ?_
 refine .q (op_minI rfl rfl) trivial rfl ?_
 refine .q (op_fieldAddr (m := 0) Tryd.underlying26 rfl (by kernel_rfl) rfl) trivial rfl ?_
 refine .as (.ptr 1000 2) rfl ?_
 refine .q (op_load Tryd.underlying3 rfl rfl rfl rfl (by first | omega | (simp only [AV.len]; omega) | (simp only [AV.len, List.length_set]; omega) | assumption | (simp [AV.len]; done))) trivial rfl ?_
 refine .q (op_maxI rfl rfl) trivial rfl ?_
 refine .q (op_minI rfl rfl) trivial rfl ?_
 refine .q (op_buildS (r := .agg _) Tryd.underlying26 rfl zero26 rel_zero26 rfl rfl rfl rfl) trivial rfl ?_
 refine .a (op_allocRow zero26 rel_zero26 rfl) trivial rfl ?_
 refine .w (op_storeRow (by kernel_rfl) rfl rfl rfl rfl rfl (rfl) (rfl)) trivial rfl ?_
 refine .nil ?_
 show Ev _ _ _ _ _
 refine .seq ?_
 refine .region ?_
 refine .q (op_loadRow Tryd.underlying26 rfl (by kernel_rfl) rfl rfl rfl (rfl)) trivial rfl ?_
 refine .a (op_makeMap 0 (c := mpV [] 0)) trivial rfl ?_
 refine .q (op_buildS (r := .agg _) Tryd.underlying68 rfl zero68 rel_zero68 rfl rfl rfl rfl) trivial rfl ?_
 refine .a (op_boxRow rfl rfl) trivial rfl ?_
 refine .q (op_assign rfl) trivial rfl ?_
 refine .nil ?_
 show Ev _ _ _ _ _
 refine .ret ?_
 show RetOk _ _ _ _ _ _ _
 exact ret1v rfl (.inl rfl) rfl rfl ⟨rfl, rfl, trivial⟩
set_option maxRecDepth 100000 in
theorem findY_at (a b c ep : Int) {M : List (Ls × Nat)} {ck : Nat} {L : List Ls} (h : MI M ck L) {x : Ls} (hx : x ∈ L) {i bn : Nat} (hi : M[i]? = some (x, bn)) : Meets Tryd.prog 20 [.ptr 500 0, .str x.t, .str x.a] [(500, some ⟨.agg [.i64 a, .i64 b, .i64 c, .mp 501, .i64 ep], 68, false⟩), (501, some ⟨mpV (M) (ck), 0, false⟩)] (.tup [lsV x, .val .nilIface]) [] := by
 refine meets_of_ev (nt := 26) Tryd.func20 rfl rfl (Nat.le_of_ble_eq_true rfl) ?_
 refine .seq ?_
 refine .region ?_
 refine .a (op_allocRow zero45 rel_zero45 rfl) trivial rfl ?_
 refine .q (op_assign rfl) trivial rfl ?_
 refine .nil ?_
 show Ev _ _ _ _ _
 refine .seq ?_
 refine .region ?_
 refine .q (op_move rfl) trivial rfl ?_
 refine .q (op_nilCheck rfl) trivial rfl ?_
 refine .q (op_fieldAddr (m := 0) Tryd.underlying68 rfl (by kernel_rfl) rfl) trivial rfl ?_
 refine .as (.ptr 500 3) rfl ?_
 refine .q (op_load Tryd.underlying66 rfl rfl rfl rfl (by first | omega | (simp only [AV.len]; omega) | (simp only [AV.len, List.length_set]; omega) | assumption | (simp [AV.len]; done))) trivial rfl ?_
 refine .q (op_move rfl) trivial rfl ?_
 refine .q (op_move rfl) trivial rfl ?_
 refine .q (op_buildS (r := .agg _) Tryd.underlying84 rfl zero84 rel_zero84 rfl rfl rfl rfl) trivial rfl ?_
 refine .q (op_lookupY (i := i) (v' := lsV x) (keysM h (mkLen (h.sz x hx).1) (mkLen (h.sz x hx).2)) Tryd.underlying66 rfl rfl rfl (mpV_ents _ _) (h.key hi) (mVs_at hi) (ls_of x)) trivial rfl ?_
 refine .q (op_move rfl) trivial rfl ?_
 refine .q (op_extract rfl rfl) trivial rfl ?_
 refine .q (op_extract rfl rfl) trivial rfl ?_
 refine .a (op_allocRow zero45 rel_zero45 rfl) trivial rfl ?_
 refine .w (op_storeRow (by kernel_rfl) rfl rfl rfl rfl rfl (rfl) (rfl)) trivial rfl ?_
 refine .q (op_assign rfl) trivial rfl ?_
 refine .nil ?_
 show Ev _ _ _ _ _
 refine .seq ?_
 refine .seq ?_
 refine .region ?_
 refine .q (op_move rfl) trivial rfl ?_
 refine .q (op_notB rfl) trivial rfl ?_
 refine .nil ?_
 show Ev _ _ _ _ _
 refine .cond_false rfl (rfl) ?_
 refine .skip ?_
 show Ev _ _ _ _ _
 refine .seq ?_
 refine .region ?_
 refine .q (op_loadRow Tryd.underlying45 rfl (by kernel_rfl) rfl rfl rfl (rfl)) trivial rfl ?_
 refine .w (op_storeRow (by kernel_rfl) rfl rfl rfl rfl rfl (rfl) (rfl)) trivial rfl ?_
 refine .q (op_assign rfl) trivial rfl ?_
 refine .nil ?_
 show Ev _ _ _ _ _
 refine .ret ?_
 show RetOk _ _ _ _ _ _ _
 exact retc2 rfl (.inl rfl) ⟨_, _, _, _, rfl, rfl, rfl, rfl, rfl, Tryd.underlying45, rfl, sz45⟩ rfl trivial
theorem findY_ev (a b c ep : Int) {M : List (Ls × Nat)} {ck : Nat} {L : List Ls} (h : MI M ck L) {x : Ls} (hx : x ∈ L) : Meets Tryd.prog 20 [.ptr 500 0, .str x.t, .str x.a] [(500, some ⟨.agg [.i64 a, .i64 b, .i64 c, .mp 501, .i64 ep], 68, false⟩), (501, some ⟨mpV (M) (ck), 0, false⟩)] (.tup [lsV x, .val .nilIface]) [] := by
 obtain ⟨i, bn, hi⟩ := h.at hx
 exact findY_at a b c ep h hx hi
set_option maxRecDepth 100000 in
theorem findN_ev (a b c ep : Int) {M : List (Ls × Nat)} {ck : Nat} {L : List Ls} (h : MI M ck L) {t al : List UInt8} (ht : t.length ≤ maxLen) (ha : al.length ≤ maxLen) (hn : ∀ x ∈ L, ¬ (x.t = t ∧ x.a = al)) (eo : Nat → Nat × Nat) : Meets Tryd.prog 20 [.ptr 500 0, .str t, .str al] [(500, some ⟨.agg [.i64 a, .i64 b, .i64 c, .mp 501, .i64 ep], 68, false⟩), (501, some ⟨mpV (M) (ck), 0, false⟩), (2, some ⟨.agg [.err 155 (8) (offE eo (8))], errT, false⟩)] (.tup [.agg [.str [], .str [], .i64 0, .i64 0, .i64 0], .err 155 (8) (offE eo (8))]) [] := by
 refine meets_of_ev (nt := 26) Tryd.func20 rfl rfl (Nat.le_of_ble_eq_true rfl) ?_
 refine .seq ?_
 refine .region ?_
 refine .a (op_allocRow zero45 rel_zero45 rfl) trivial rfl ?_
 refine .q (op_assign rfl) trivial rfl ?_
 refine .nil ?_
 show Ev _ _ _ _ _
 refine .seq ?_
 refine .region ?_
 refine .q (op_move rfl) trivial rfl ?_
 refine .q (op_nilCheck rfl) trivial rfl ?_
 refine .q (op_fieldAddr (m := 0) Tryd.underlying68 rfl (by kernel_rfl) rfl) trivial rfl ?_
 refine .as (.ptr 500 3) rfl ?_
 refine .q (op_load Tryd.underlying66 rfl rfl rfl rfl (by first | omega | (simp only [AV.len]; omega) | (simp only [AV.len, List.length_set]; omega) | assumption | (simp [AV.len]; done))) trivial rfl ?_
 refine .q (op_move rfl) trivial rfl ?_
 refine .q (op_move rfl) trivial rfl ?_
 refine .q (op_buildS (r := .agg _) Tryd.underlying84 rfl zero84 rel_zero84 rfl rfl rfl rfl) trivial rfl ?_
 refine .q (op_lookupN (v := .agg [.str [], .str [], .i64 0, .i64 0, .i64 0]) (keysM h ht ha) Tryd.underlying66 zero45 rel_zero45 rfl rfl rfl (mpV_ents _ _) (h.no hn)) trivial rfl ?_
 refine .q (op_move rfl) trivial rfl ?_
 refine .q (op_extract rfl rfl) trivial rfl ?_
 refine .q (op_extract rfl rfl) trivial rfl ?_
 refine .a (op_allocRow zero45 rel_zero45 rfl) trivial rfl ?_
 refine .w (op_storeRow (by kernel_rfl) rfl rfl rfl rfl rfl (rfl) (rfl)) trivial rfl ?_
 refine .q (op_assign rfl) trivial rfl ?_
 refine .nil ?_
 show Ev _ _ _ _ _
 refine .seq ?_
 refine .seq ?_
 refine .region ?_
 refine .q (op_move rfl) trivial rfl ?_
 refine .q (op_notB rfl) trivial rfl ?_
 refine .nil ?_
 show Ev _ _ _ _ _
 refine .cond_true rfl (rfl) ?_
 refine .seq ?_
 refine .drawnF [[], [], [0], [0, 1, 2]] [1, 2] [] [(1, ([2], [])), (2, ([], [1000]))] (by kernel_rfl) (by kernel_rfl) rfl ?_
 show DK _ [0, 1, 2, 3] _ _ _
 refine .q rfl (op_buildS (r := .agg _) Tryd.underlying45 rfl zero45 rel_zero45 rfl rfl rfl rfl) trivial ?_
 refine .q rfl (op_load Tryd.underlying47 rfl rfl rfl rfl (by first | omega | (simp only [AV.len]; omega) | (simp only [AV.len, List.length_set]; omega) | assumption | (simp [AV.len]; done))) trivial ?_
 refine .w rfl (op_storeRow (by kernel_rfl) rfl rfl rfl rfl rfl (rfl) (rfl)) trivial rfl rfl ?_
 refine .q rfl (op_assign rfl) trivial ?_
 refine .nil ?_
 show Ev _ _ _ _ _
 refine .ret ?_
 show RetOk _ _ _ _ _ _ _
 exact retc2 rfl (.inl rfl) ⟨_, _, _, _, rfl, rfl, rfl, rfl, rfl, Tryd.underlying45, rfl, sz45⟩ rfl trivial
set_option maxRecDepth 100000 in
theorem putY_at (a b c ep : Int) {M : List (Ls × Nat)} {ck : Nat} {L : List Ls} (h : MI M ck L) {x y : Ls} (hs : x.t.length ≤ 63 ∧ x.a.length ≤ 63) {i bn : Nat} (hi : M[i]? = some (y, bn)) (e : kEq y x) : Meets Tryd.prog 40 [.ptr 500 0, lsV x] [(500, some ⟨.agg [.i64 a, .i64 b, .i64 c, .mp 501, .i64 ep], 68, false⟩), (501, some ⟨mpV (M) (ck), 0, true⟩)] (.tup []) [(501, some ⟨mpV (M.set i (x, bn)) (ck), 0, true⟩)] := by
 refine meets_of_ev (nt := 14) Tryd.func40 rfl rfl (Nat.le_of_ble_eq_true rfl) ?_
 refine .seq ?_
 refine .region ?_
 refine .a (op_boxRow rfl rfl) trivial rfl ?_
 refine .nil ?_
 show Ev _ _ _ _ _
 refine .drawn [[], [0], [0, 1], [0, 1, 2], [], [4], [], [6], [4, 5, 6, 7], [], [0, 1, 2, 3, 4, 5, 6, 7, 8, 9]] [3, 5, 7, 9, 10] [10] (by kernel_rfl) (by kernel_rfl) rfl ?_
 show DK _ [0, 1, 2, 3, 4, 5, 6, 7, 8, 9, 10] _ _ _
 refine .q rfl (op_move rfl) trivial ?_
 refine .q rfl (op_nilCheck rfl) trivial ?_
 refine .q rfl (op_fieldAddr (m := 0) Tryd.underlying68 rfl (by kernel_rfl) rfl) trivial ?_
 refine .as (.ptr 500 3) rfl ?_
 refine .q rfl (op_load Tryd.underlying66 rfl rfl rfl rfl (by first | omega | (simp only [AV.len]; omega) | (simp only [AV.len, List.length_set]; omega) | assumption | (simp [AV.len]; done))) trivial ?_
 refine .q rfl (op_fieldAddr (m := 0) Tryd.underlying45 rfl (by kernel_rfl) rfl) trivial ?_
 refine .as (.ptr 1000 0) rfl ?_
 refine .q rfl (op_load Tryd.underlying9 rfl rfl rfl rfl (by show 0 < 5; decide)) trivial ?_
 refine .q rfl (op_fieldAddr (m := 0) Tryd.underlying45 rfl (by kernel_rfl) rfl) trivial ?_
 refine .as (.ptr 1000 1) rfl ?_
 refine .q rfl (op_load Tryd.underlying9 rfl rfl rfl rfl (by show 1 < 5; decide)) trivial ?_
 refine .q rfl (op_buildS (r := .agg _) Tryd.underlying84 rfl zero84 rel_zero84 rfl rfl rfl rfl) trivial ?_
 refine .q rfl (op_loadRow Tryd.underlying45 rfl (by kernel_rfl) rfl rfl rfl (rfl)) trivial ?_
 refine .w rfl (op_mapPutY (i := i) (c' := mpV (M.set i (x, bn)) ck) (keysM h (mkLen hs.1) (mkLen hs.2)) Tryd.underlying66 rfl rfl rfl rfl rfl (mpV_ents _ _) (keyE h hi e) (ls_to x) (ents_set hi e)) trivial rfl rfl ?_
 refine .nil ?_
 show RetOk _ _ _ _ _ _ _
 exact ret0 rfl (.inr rfl) ⟨rfl, trivial⟩
set_option maxRecDepth 100000 in
theorem putN_at (a b c ep : Int) {M : List (Ls × Nat)} {ck : Nat} {L : List Ls} (h : MI M ck L) {x : Ls} (hs : x.t.length ≤ 63 ∧ x.a.length ≤ 63) (hn : ∀ y ∈ L, ¬ kEq y x) : Meets Tryd.prog 40 [.ptr 500 0, lsV x] [(500, some ⟨.agg [.i64 a, .i64 b, .i64 c, .mp 501, .i64 ep], 68, false⟩), (501, some ⟨mpV (M) (ck), 0, true⟩)] (.tup []) [(501, some ⟨mpV (M ++ [(x, ck)]) (ck + 1), 0, true⟩)] := by
 refine meets_of_ev (nt := 14) Tryd.func40 rfl rfl (Nat.le_of_ble_eq_true rfl) ?_
 refine .seq ?_
 refine .region ?_
 refine .a (op_boxRow rfl rfl) trivial rfl ?_
 refine .nil ?_
 show Ev _ _ _ _ _
 refine .drawn [[], [0], [0, 1], [0, 1, 2], [], [4], [], [6], [4, 5, 6, 7], [], [0, 1, 2, 3, 4, 5, 6, 7, 8, 9]] [3, 5, 7, 9, 10] [10] (by kernel_rfl) (by kernel_rfl) rfl ?_
 show DK _ [0, 1, 2, 3, 4, 5, 6, 7, 8, 9, 10] _ _ _
 refine .q rfl (op_move rfl) trivial ?_
 refine .q rfl (op_nilCheck rfl) trivial ?_
 refine .q rfl (op_fieldAddr (m := 0) Tryd.underlying68 rfl (by kernel_rfl) rfl) trivial ?_
 refine .as (.ptr 500 3) rfl ?_
 refine .q rfl (op_load Tryd.underlying66 rfl rfl rfl rfl (by first | omega | (simp only [AV.len]; omega) | (simp only [AV.len, List.length_set]; omega) | assumption | (simp [AV.len]; done))) trivial ?_
 refine .q rfl (op_fieldAddr (m := 0) Tryd.underlying45 rfl (by kernel_rfl) rfl) trivial ?_
 refine .as (.ptr 1000 0) rfl ?_
 refine .q rfl (op_load Tryd.underlying9 rfl rfl rfl rfl (by show 0 < 5; decide)) trivial ?_
 refine .q rfl (op_fieldAddr (m := 0) Tryd.underlying45 rfl (by kernel_rfl) rfl) trivial ?_
 refine .as (.ptr 1000 1) rfl ?_
 refine .q rfl (op_load Tryd.underlying9 rfl rfl rfl rfl (by show 1 < 5; decide)) trivial ?_
 refine .q rfl (op_buildS (r := .agg _) Tryd.underlying84 rfl zero84 rel_zero84 rfl rfl rfl rfl) trivial ?_
 refine .q rfl (op_loadRow Tryd.underlying45 rfl (by kernel_rfl) rfl rfl rfl (rfl)) trivial ?_
 refine .w rfl (op_mapPutN (c' := mpV (M ++ [(x, ck)]) (ck + 1)) (keysM h (mkLen hs.1) (mkLen hs.2)) Tryd.underlying66 rfl rfl rfl rfl rfl (mpV_ents _ _) (h.no hn) (ls_to x) ents_app) trivial rfl rfl ?_
 refine .nil ?_
 show RetOk _ _ _ _ _ _ _
 exact ret0 rfl (.inr rfl) ⟨rfl, trivial⟩
theorem put_ev (a b c ep : Int) {M : List (Ls × Nat)} {ck : Nat} {L : List Ls} (h : MI M ck L) (x : Ls) (hs : x.t.length ≤ 63 ∧ x.a.length ≤ 63) : Meets Tryd.prog 40 [.ptr 500 0, lsV x] [(500, some ⟨.agg [.i64 a, .i64 b, .i64 c, .mp 501, .i64 ep], 68, false⟩), (501, some ⟨mpV (M) (ck), 0, true⟩)] (.tup []) [(501, some ⟨mpV ((putM M ck x).1) ((putM M ck x).2), 0, true⟩)] := by
 by_cases hx : ∃ y ∈ L, kEq y x
 ·obtain ⟨y, hy, e⟩ := hx
  obtain ⟨i, bn, hi⟩ := h.at hy
  rw [h.putY hi e]
  exact putY_at a b c ep h hs hi e
 ·have hn : ∀ y ∈ L, ¬ kEq y x := fun y hy e => hx ⟨y, hy, e⟩
  rw [h.putN hn]
  exact putN_at a b c ep h hs hn
set_option maxRecDepth 100000 in
theorem remove_at (a b c ep : Int) {M : List (Ls × Nat)} {ck : Nat} {L : List Ls} (h : MI M ck L) {x y : Ls} (hs : x.t.length ≤ 63 ∧ x.a.length ≤ 63) {i bn : Nat} (hi : M[i]? = some (y, bn)) (e : kEq y x) : Meets Tryd.prog 41 [.ptr 500 0, lsV x] [(500, some ⟨.agg [.i64 a, .i64 b, .i64 c, .mp 501, .i64 ep], 68, false⟩), (501, some ⟨mpV (M) (ck), 0, true⟩)] (.tup []) [(501, some ⟨mpV (M.eraseIdx i) (ck), 0, true⟩)] := by
 refine meets_of_ev (nt := 13) Tryd.func41 rfl rfl (Nat.le_of_ble_eq_true rfl) ?_
 refine .seq ?_
 refine .region ?_
 refine .a (op_boxRow rfl rfl) trivial rfl ?_
 refine .nil ?_
 show Ev _ _ _ _ _
 refine .drawn [[], [0], [0, 1], [0, 1, 2], [], [4], [], [6], [4, 5, 6, 7], [0, 1, 2, 3, 4, 5, 6, 7, 8]] [3, 5, 7, 9] [9] (by kernel_rfl) (by kernel_rfl) rfl ?_
 show DK _ [0, 1, 2, 3, 4, 5, 6, 7, 8, 9] _ _ _
 refine .q rfl (op_move rfl) trivial ?_
 refine .q rfl (op_nilCheck rfl) trivial ?_
 refine .q rfl (op_fieldAddr (m := 0) Tryd.underlying68 rfl (by kernel_rfl) rfl) trivial ?_
 refine .as (.ptr 500 3) rfl ?_
 refine .q rfl (op_load Tryd.underlying66 rfl rfl rfl rfl (by first | omega | (simp only [AV.len]; omega) | (simp only [AV.len, List.length_set]; omega) | assumption | (simp [AV.len]; done))) trivial ?_
 refine .q rfl (op_fieldAddr (m := 0) Tryd.underlying45 rfl (by kernel_rfl) rfl) trivial ?_
 refine .as (.ptr 1000 0) rfl ?_
 refine .q rfl (op_load Tryd.underlying9 rfl rfl rfl rfl (by show 0 < 5; decide)) trivial ?_
 refine .q rfl (op_fieldAddr (m := 0) Tryd.underlying45 rfl (by kernel_rfl) rfl) trivial ?_
 refine .as (.ptr 1000 1) rfl ?_
 refine .q rfl (op_load Tryd.underlying9 rfl rfl rfl rfl (by show 1 < 5; decide)) trivial ?_
 refine .q rfl (op_buildS (r := .agg _) Tryd.underlying84 rfl zero84 rel_zero84 rfl rfl rfl rfl) trivial ?_
 refine .w rfl (op_deleteY (i := i) (c' := mpV (M.eraseIdx i) ck) (keysM h (mkLen hs.1) (mkLen hs.2)) Tryd.underlying66 rfl rfl rfl rfl (mpV_ents _ _) (keyE h hi e) ents_del) trivial rfl rfl ?_
 refine .nil ?_
 show RetOk _ _ _ _ _ _ _
 exact ret0 rfl (.inr rfl) ⟨rfl, trivial⟩
theorem remove_ev (a b c ep : Int) {M : List (Ls × Nat)} {ck : Nat} {L : List Ls} (h : MI M ck L) {x : Ls} (hx : x ∈ L) : Meets Tryd.prog 41 [.ptr 500 0, lsV x] [(500, some ⟨.agg [.i64 a, .i64 b, .i64 c, .mp 501, .i64 ep], 68, false⟩), (501, some ⟨mpV (M) (ck), 0, true⟩)] (.tup []) [(501, some ⟨mpV (delM M x) (ck), 0, true⟩)] := by
 obtain ⟨i, bn, hi⟩ := h.at hx
 rw [h.delY hi ⟨rfl, rfl⟩]
 exact remove_at a b c ep h (h.sz x hx) hi ⟨rfl, rfl⟩
end Go.Proofs.YticickigndgpcaaDoor
namespace Go.Proofs.YticickigndgpcaaDoor
open Go.RowKit
theorem op_ltS {P : Program} {T : Nat → Option AV} {H : Hp} {nm : Nat} {wr : Bool} {d : Option Tmp} {ty t t' : TypeId} {ps : String} {af : Array Edge} {gd : Option (Nat × Bool)} {x y : Operand} {s1 s2 : List UInt8} (hx : aev T x = some (.str s1)) (hy : aev T y = some (.str s2)) :
    OpSem P T H ⟨d, .binOp .lss t x y t', ty, ps, af, gd⟩ nm wr (.bool (decide (s1 < s2))) [] :=
  op_bin hx hy fun E y1 y2 w h1 h2 => by
    rw [h1.str_inv, h2.str_inv]
    exact ⟨.bool _, by simp [eqGuard, binOp, Op.stringOp, bytes_list, bytesLess_eq], .bool _⟩
theorem gtS_eq (s1 s2 : List UInt8) : (!(decide (s1 < s2) || s1 == s2)) = decide (s2 < s1) := by
  rcases sLt_tri s1 s2 with h | h | h
  · simp [h, sLt_asymm h]
  · subst h; simp [sLt_irrefl]
  · have : s1 ≠ s2 := fun e => by rw [e] at h; exact sLt_irrefl _ h
    simp [h, sLt_asymm h, this]
theorem op_gtS {P : Program} {T : Nat → Option AV} {H : Hp} {nm : Nat} {wr : Bool} {d : Option Tmp} {ty t t' : TypeId} {ps : String} {af : Array Edge} {gd : Option (Nat × Bool)} {x y : Operand} {s1 s2 : List UInt8} (hx : aev T x = some (.str s1)) (hy : aev T y = some (.str s2)) :
    OpSem P T H ⟨d, .binOp .gtr t x y t', ty, ps, af, gd⟩ nm wr (.bool (decide (s2 < s1))) [] :=
  op_bin hx hy fun E y1 y2 w h1 h2 => by
    rw [h1.str_inv, h2.str_inv, ← gtS_eq]
    exact ⟨.bool _, by simp [eqGuard, binOp, Op.stringOp, bytes_list, bytesLess_eq], .bool _⟩
set_option maxRecDepth 100000 in
theorem isNaN_ev (s : List UInt8) : Meets Tryd.prog 61 [.str s] [] (.bool false) [] := by
 refine meets_of_ev (nt := 6) Tryd.func61 rfl rfl (Nat.le_of_ble_eq_true rfl) ?_
 refine .seq ?_
 refine .region ?_
 refine .q (op_assign rfl) trivial rfl ?_
 refine .nil ?_
 show Ev _ _ _ _ _
 refine .seq ?_
 refine .region ?_
 refine .q (op_move rfl) trivial rfl ?_
 refine .q (op_move rfl) trivial rfl ?_
 refine .q (op_eqS rfl rfl rfl) trivial rfl ?_
 refine .q (op_assign rfl) trivial rfl ?_
 refine .nil ?_
 show Ev _ _ _ _ _
 refine .ret ?_
 show RetOk _ _ _ _ _ _ _
 exact ret1v rfl (.inl rfl) rfl (congrArg AV.bool (by simp)) trivial
set_option maxRecDepth 100000 in
theorem compare_ev (s t : List UInt8) : Meets Tryd.prog 53 [.str s, .str t] [] (.i64 (cmpS s t)) [] := by
 refine meets_of_ev (nt := 20) Tryd.func53 rfl rfl (Nat.le_of_ble_eq_true rfl) ?_
 refine .seq ?_
 refine .region ?_
 refine .q (op_assign rfl) trivial rfl ?_
 refine .nil ?_
 show Ev _ _ _ _ _
 refine .seq ?_
 refine .region ?_
 refine .q (op_move rfl) trivial rfl ?_
 refine .q (op_call (U := []) [] [] (isNaN_ev _) Tryd.func61 (by kernel_rfl) rfl rfl rfl (⟨⟨_, rfl, rfl, rfl⟩, trivial⟩) (trivial) (trivial) (trivial) rfl) trivial rfl ?_
 refine .q (op_assign rfl) trivial rfl ?_
 refine .nil ?_
 show Ev _ _ _ _ _
 refine .seq ?_
 refine .region ?_
 refine .q (op_move rfl) trivial rfl ?_
 refine .q (op_call (U := []) [] [] (isNaN_ev _) Tryd.func61 (by kernel_rfl) rfl rfl rfl (⟨⟨_, rfl, rfl, rfl⟩, trivial⟩) (trivial) (trivial) (trivial) rfl) trivial rfl ?_
 refine .q (op_assign rfl) trivial rfl ?_
 refine .nil ?_
 show Ev _ _ _ _ _
 refine .seq ?_
 refine .seq ?_
 refine .region ?_
 refine .q (op_move rfl) trivial rfl ?_
 refine .nil ?_
 show Ev _ _ _ _ _
 refine .cond_false rfl (rfl) ?_
 refine .skip ?_
 show Ev _ _ _ _ _
 refine .seq ?_
 refine .seq ?_
 refine .region ?_
 refine .q (op_move rfl) trivial rfl ?_
 refine .nil ?_
 show Ev _ _ _ _ _
 refine .cond_false rfl (rfl) ?_
 refine .skip ?_
 show Ev _ _ _ _ _
 refine .seq ?_
 refine .seq ?_
 refine .region ?_
 refine .q (op_move rfl) trivial rfl ?_
 refine .q (op_move rfl) trivial rfl ?_
 refine .q (op_ltS rfl rfl) trivial rfl ?_
 refine .nil ?_
 show Ev _ _ _ _ _
 refine .cond rfl (fun hc16 => ?_) (fun hc16 => ?_)
 ·skip
  refine .seq ?_
  refine .region ?_
  refine .q (op_assign rfl) trivial rfl ?_
  refine .nil ?_
  show Ev _ _ _ _ _
  refine .ret ?_
  show RetOk _ _ _ _ _ _ _
  exact ret1v rfl (.inl rfl) rfl (congrArg AV.i64 (by unfold cmpS; first | simp [of_decide_eq_true hc16] | simp [of_decide_eq_false hc16, of_decide_eq_true hc19] | simp [of_decide_eq_false hc16, of_decide_eq_false hc19])) trivial
 ·skip
  refine .skip ?_
  show Ev _ _ _ _ _
  refine .seq ?_
  refine .seq ?_
  refine .region ?_
  refine .q (op_move rfl) trivial rfl ?_
  refine .q (op_move rfl) trivial rfl ?_
  refine .q (op_gtS rfl rfl) trivial rfl ?_
  refine .nil ?_
  show Ev _ _ _ _ _
  refine .cond rfl (fun hc19 => ?_) (fun hc19 => ?_)
  ·skip
   refine .seq ?_
   refine .region ?_
   refine .q (op_assign rfl) trivial rfl ?_
   refine .nil ?_
   show Ev _ _ _ _ _
   refine .ret ?_
   show RetOk _ _ _ _ _ _ _
   exact ret1v rfl (.inl rfl) rfl (congrArg AV.i64 (by unfold cmpS; first | simp [of_decide_eq_true hc16] | simp [of_decide_eq_false hc16, of_decide_eq_true hc19] | simp [of_decide_eq_false hc16, of_decide_eq_false hc19])) trivial
  ·skip
   refine .skip ?_
   show Ev _ _ _ _ _
   refine .seq ?_
   refine .region ?_
   refine .q (op_assign rfl) trivial rfl ?_
   refine .nil ?_
   show Ev _ _ _ _ _
   refine .ret ?_
   show RetOk _ _ _ _ _ _ _
   exact ret1v rfl (.inl rfl) rfl (congrArg AV.i64 (by unfold cmpS; first | simp [of_decide_eq_true hc16] | simp [of_decide_eq_false hc16, of_decide_eq_true hc19] | simp [of_decide_eq_false hc16, of_decide_eq_false hc19])) trivial
set_option maxRecDepth 100000 in
theorem or_ev (x y : Int) : Meets Tryd.prog 52 [.sl 500 0 2 1] [(500, some ⟨.aggI [x, y], 3, false⟩)] (.i64 (if x ≠ 0 then x else y)) [] := by
 refine meets_of_ev (nt := 18) Tryd.func52 rfl rfl (Nat.le_of_ble_eq_true rfl) ?_
 refine .seq ?_
 refine .region ?_
 refine .q (op_assign rfl) trivial rfl ?_
 refine .nil ?_
 show Ev _ _ _ _ _
 refine .seq ?_
 refine .region ?_
 refine .q (op_assign rfl) trivial rfl ?_
 refine .nil ?_
 show Ev _ _ _ _ _
 refine .seq ?_
 refine .seq ?_
 refine .region ?_
 refine .q (op_move rfl) trivial rfl ?_
 refine .q (op_len_sl Tryd.underlying111 rfl) trivial rfl ?_
 refine .q (op_move rfl) trivial rfl ?_
 refine .nil ?_
 show Ev _ _ _ _ _
 refine .block ?_
 refine Ev.rounds 3 ?_
 show Ev _ _ _ _ _
 refine .seq ?_
 refine .region ?_
 refine .q (op_cmpI rfl rfl rfl) trivial rfl ?_
 refine .nil ?_
 show Ev _ _ _ _ _
 refine .seq ?_
 refine .cond_true rfl (rfl) ?_
 refine .skip ?_
 show Ev _ _ _ _ _
 refine .seq ?_
 refine .block ?_
 refine .seq ?_
 refine .region ?_
 refine .q (ap_idx0 Tryd.underlying111 inf3.sz rfl rfl (i := 0) rfl (by decide)) trivial rfl ?_
 refine .q (op_load Tryd.underlying3 rfl rfl rfl rfl (by show 0 < 2; decide)) trivial rfl ?_
 refine .q (op_assign rfl) trivial rfl ?_
 refine .nil ?_
 show Ev _ _ _ _ _
 refine .seq ?_
 refine .region ?_
 refine .q (op_move rfl) trivial rfl ?_
 refine .q (op_move rfl) trivial rfl ?_
 refine .q (op_cmpI rfl rfl rfl) trivial rfl ?_
 refine .nil ?_
 show Ev _ _ _ _ _
 refine .cond rfl (fun hc14 => ?_) (fun hc14 => ?_)
 ·skip
  refine .seq ?_
  refine .region ?_
  refine .q (op_move rfl) trivial rfl ?_
  refine .q (op_assign rfl) trivial rfl ?_
  refine .nil ?_
  show Ev _ _ _ _ _
  refine .ret ?_
  show RetOk _ _ _ _ _ _ _
  exact ret1v rfl (.inl rfl) rfl (congrArg AV.i64 (by simp_all)) trivial
 ·skip
  refine .skip ?_
  show Ev _ _ _ _ _
  refine .region ?_
  refine .q (op_addI rfl rfl ⟨by omega, by omega⟩) trivial rfl ?_
  refine .q (op_move rfl) trivial rfl ?_
  refine .nil ?_
  show Ev _ _ _ _ _
  refine .seq ?_
  refine .region ?_
  refine .q (op_cmpI rfl rfl rfl) trivial rfl ?_
  refine .nil ?_
  show Ev _ _ _ _ _
  refine .seq ?_
  refine .cond_true rfl (rfl) ?_
  refine .skip ?_
  show Ev _ _ _ _ _
  refine .seq ?_
  refine .block ?_
  refine .seq ?_
  refine .region ?_
  refine .q (ap_idx0 Tryd.underlying111 inf3.sz rfl rfl (i := 1) rfl (by decide)) trivial rfl ?_
  refine .q (op_load Tryd.underlying3 rfl rfl rfl rfl (by show 1 < 2; decide)) trivial rfl ?_
  refine .q (op_assign rfl) trivial rfl ?_
  refine .nil ?_
  show Ev _ _ _ _ _
  refine .seq ?_
  refine .region ?_
  refine .q (op_move rfl) trivial rfl ?_
  refine .q (op_move rfl) trivial rfl ?_
  refine .q (op_cmpI rfl rfl rfl) trivial rfl ?_
  refine .nil ?_
  show Ev _ _ _ _ _
  refine .cond rfl (fun hc14 => ?_) (fun hc14 => ?_)
  ·skip
   refine .seq ?_
   refine .region ?_
   refine .q (op_move rfl) trivial rfl ?_
   refine .q (op_assign rfl) trivial rfl ?_
   refine .nil ?_
   show Ev _ _ _ _ _
   refine .ret ?_
   show RetOk _ _ _ _ _ _ _
   exact ret1v rfl (.inl rfl) rfl (congrArg AV.i64 (by simp_all)) trivial
  ·skip
   refine .skip ?_
   show Ev _ _ _ _ _
   refine .region ?_
   refine .q (op_addI rfl rfl ⟨by omega, by omega⟩) trivial rfl ?_
   refine .q (op_move rfl) trivial rfl ?_
   refine .nil ?_
   show Ev _ _ _ _ _
   refine .seq ?_
   refine .region ?_
   refine .q (op_cmpI rfl rfl rfl) trivial rfl ?_
   refine .nil ?_
   show Ev _ _ _ _ _
   refine .seq ?_
   refine .cond_false rfl (rfl) ?_
   refine .exit ?_
   show Ev _ _ _ _ _
   refine .seq ?_
   refine .region ?_
   refine .q (op_move rfl) trivial rfl ?_
   refine .q (op_assign rfl) trivial rfl ?_
   refine .nil ?_
   show Ev _ _ _ _ _
   refine .ret ?_
   show RetOk _ _ _ _ _ _ _
   exact ret1v rfl (.inl rfl) rfl (congrArg AV.i64 (by simp_all)) trivial
set_option maxRecDepth 100000 in
theorem less_ev (x y : Ls) : Meets Tryd.prog 51 [lsV x, lsV y] [] (.i64 (cmpL x y)) [] := by
 refine meets_of_ev (nt := 17) Tryd.func51 rfl rfl (Nat.le_of_ble_eq_true rfl) ?_
 refine .seq ?_
 refine .region ?_
 refine .a (op_boxRow rfl rfl) trivial rfl ?_
 refine .a (op_boxRow rfl rfl) trivial rfl ?_
 refine .q (op_assign rfl) trivial rfl ?_
 refine .nil ?_
 show Ev _ _ _ _ _
 refine .seq ?_
 refine .drawn [[], [0], [], [2], [0, 1, 2, 3], [], [5], [], [7], [0, 1, 2, 3, 4, 5, 6, 7, 8], [0, 1, 2, 3, 4, 5, 6, 7, 8, 9], [0, 1, 2, 3, 4, 5, 6, 7, 8, 9, 10], [0, 1, 2, 3, 4, 5, 6, 7, 8, 9, 10, 11]] [1, 3, 4, 6, 8, 9, 10, 11] [] (by kernel_rfl) (by kernel_rfl) rfl ?_
 show DK _ [0, 1, 2, 3, 4, 5, 6, 7, 8, 9, 10, 11, 12] _ _ _
 refine .q rfl (op_fieldAddr (m := 0) Tryd.underlying45 rfl (by kernel_rfl) rfl) trivial ?_
 refine .as (.ptr 1000 0) rfl ?_
 refine .q rfl (op_load Tryd.underlying9 rfl rfl rfl rfl (by show 0 < 5; decide)) trivial ?_
 refine .q rfl (op_fieldAddr (m := 0) Tryd.underlying45 rfl (by kernel_rfl) rfl) trivial ?_
 refine .as (.ptr 1008 0) rfl ?_
 refine .q rfl (op_load Tryd.underlying9 rfl rfl rfl rfl (by show 0 < 5; decide)) trivial ?_
 refine .q rfl (op_call (U := []) [] [] (compare_ev _ _) Tryd.func53 (by kernel_rfl) rfl rfl rfl (⟨⟨_, rfl, rfl, rfl⟩, ⟨_, rfl, rfl, rfl⟩, trivial⟩) (trivial) (trivial) (trivial) rfl) trivial ?_
 refine .q rfl (op_fieldAddr (m := 0) Tryd.underlying45 rfl (by kernel_rfl) rfl) trivial ?_
 refine .as (.ptr 1000 1) rfl ?_
 refine .q rfl (op_load Tryd.underlying9 rfl rfl rfl rfl (by show 1 < 5; decide)) trivial ?_
 refine .q rfl (op_fieldAddr (m := 0) Tryd.underlying45 rfl (by kernel_rfl) rfl) trivial ?_
 refine .as (.ptr 1008 1) rfl ?_
 refine .q rfl (op_load Tryd.underlying9 rfl rfl rfl rfl (by show 1 < 5; decide)) trivial ?_
 refine .q rfl (op_call (U := []) [] [] (compare_ev _ _) Tryd.func53 (by kernel_rfl) rfl rfl rfl (⟨⟨_, rfl, rfl, rfl⟩, ⟨_, rfl, rfl, rfl⟩, trivial⟩) (trivial) (trivial) (trivial) rfl) trivial ?_
 refine .a rfl (ap_build (us := [_, _]) (c := .aggI [_, _]) Tryd.underlying111 inf3 rfl (by decide) (by decide) ⟨rfl, rfl, rfl, rfl, rfl, rfl, trivial⟩ rfl) trivial rfl rfl ?_
 refine .q rfl (op_call (U := []) [(500, 1096)] [] (or_ev (cmpS x.t y.t) (cmpS x.a y.a)) Tryd.func52 (by kernel_rfl) rfl rfl rfl (⟨⟨_, rfl, rfl, rfl⟩, trivial⟩) (⟨⟨_, ⟨.aggI [cmpS x.t y.t, cmpS x.a y.a], 3, true⟩, rfl, by kernel_rfl, rfl, rfl, (fun h => by cases h), rfl⟩, trivial⟩) (trivial) (⟨(fun h => by cases h), trivial⟩) rfl) trivial ?_
 refine .q rfl (op_assign rfl) trivial ?_
 refine .nil ?_
 show Ev _ _ _ _ _
 refine .ret ?_
 show RetOk _ _ _ _ _ _ _
 exact ret1v rfl (.inl rfl) rfl (rfl) trivial
end Go.Proofs.YticickigndgpcaaDoor
namespace Go.Proofs.YticickigndgpcaaDoor
open Go.Shelf Go.RowKit
def shLease_ren : Go.Shelf.Ren := ⟨fun | 6 => 50 | 15 => 60 | 14 => 59 | 28 => 72 | 29 => 73 | 20 => 64 | 21 => 65 | 22 => 66 | 23 => 67 | 24 => 68 | 25 => 69 | 26 => 70 | 27 => 71 | 46 => 83 | 47 => 84 | 48 => 85 | 49 => 86 | 50 => 87 | 57 => 91 | n => n, fun | 22 => 39 | 24 => 45 | 25 => 102 | 3 => 3 | 39 => 110 | 0 => 0 | 53 => 134 | 55 => 136 | 4 => 4 | 46 => 127 | 45 => 126 | 50 => 131 | 5 => 5 | 9 => 9 | 66 => 143 | 70 => 147 | 76 => 151 | 77 => 152 | n => n, fun | n => n⟩
theorem shLease : Go.Proofs.SlLaysF0.n6 Tryd.prog shLease_ren := {
  mixed := by kernel_rfl
  f6 := ⟨Tryd.f50.name, by decide, Tryd.func50.trans (congrArg some (by kernel_rfl))⟩
  f14 := ⟨Tryd.f59.name, by decide, Tryd.func59.trans (congrArg some (by kernel_rfl))⟩
  f15 := Tryd.func60.trans (congrArg some (by kernel_rfl))
  f20 := ⟨Tryd.f64.name, by decide, Tryd.func64.trans (congrArg some (by kernel_rfl))⟩
  f21 := ⟨Tryd.f65.name, by decide, Tryd.func65.trans (congrArg some (by kernel_rfl))⟩
  f22 := ⟨Tryd.f66.name, by decide, Tryd.func66.trans (congrArg some (by kernel_rfl))⟩
  f23 := ⟨Tryd.f67.name, by decide, Tryd.func67.trans (congrArg some (by kernel_rfl))⟩
  f24 := ⟨Tryd.f68.name, by decide, Tryd.func68.trans (congrArg some (by kernel_rfl))⟩
  f25 := ⟨Tryd.f69.name, by decide, Tryd.func69.trans (congrArg some (by kernel_rfl))⟩
  f26 := ⟨Tryd.f70.name, by decide, Tryd.func70.trans (congrArg some (by kernel_rfl))⟩
  f27 := ⟨Tryd.f71.name, by decide, Tryd.func71.trans (congrArg some (by kernel_rfl))⟩
  f28 := Tryd.func72.trans (congrArg some (by kernel_rfl))
  f29 := Tryd.func73.trans (congrArg some (by kernel_rfl))
  f46 := ⟨Tryd.f83.name, by decide, Tryd.func83.trans (congrArg some (by kernel_rfl))⟩
  f47 := Tryd.func84.trans (congrArg some (by kernel_rfl))
  f48 := Tryd.func85.trans (congrArg some (by kernel_rfl))
  f49 := ⟨Tryd.f86.name, by decide, Tryd.func86.trans (congrArg some (by kernel_rfl))⟩
  f50 := ⟨Tryd.f87.name, by decide, Tryd.func87.trans (congrArg some (by kernel_rfl))⟩
  f57 := ⟨Tryd.f91.name, by decide, Tryd.func91.trans (congrArg some (by kernel_rfl))⟩
  t0 := Tryd.underlying0
  a0 := Tryd.isAgg0
  z0 := Tryd.sizeOf0
  v0 := Tryd.zeroValue0
  t3 := Tryd.underlying3
  a3 := Tryd.isAgg3
  z3 := Tryd.sizeOf3
  v3 := Tryd.zeroValue3
  t4 := Tryd.underlying4
  a4 := Tryd.isAgg4
  z4 := Tryd.sizeOf4
  v4 := Tryd.zeroValue4
  t5 := Tryd.underlying5
  a5 := Tryd.isAgg5
  z5 := Tryd.sizeOf5
  v5 := Tryd.zeroValue5
  t9 := Tryd.underlying9
  a9 := Tryd.isAgg9
  z9 := Tryd.sizeOf9
  v9 := Tryd.zeroValue9
  t22 := Tryd.underlying39
  a22 := Tryd.isAgg39
  z22 := Tryd.sizeOf39
  v22 := Tryd.zeroValue39
  t25 := Tryd.underlying102
  a25 := Tryd.isAgg102
  z25 := Tryd.sizeOf102
  v25 := Tryd.zeroValue102
  t39 := Tryd.underlying110
  a39 := Tryd.isAgg110
  z39 := Tryd.sizeOf110
  v39 := Tryd.zeroValue110
  t45 := Tryd.underlying126
  a45 := Tryd.isAgg126
  z45 := Tryd.sizeOf126
  v45 := Tryd.zeroValue126
  t46 := Tryd.underlying127
  a46 := Tryd.isAgg127
  z46 := Tryd.sizeOf127
  v46 := Tryd.zeroValue127
  t50 := Tryd.underlying131
  a50 := Tryd.isAgg131
  z50 := Tryd.sizeOf131
  v50 := Tryd.zeroValue131
  t53 := Tryd.underlying134
  a53 := Tryd.isAgg134
  z53 := Tryd.sizeOf134
  v53 := Tryd.zeroValue134
  t55 := Tryd.underlying136
  a55 := Tryd.isAgg136
  z55 := Tryd.sizeOf136
  v55 := Tryd.zeroValue136
  t66 := Tryd.underlying143
  a66 := Tryd.isAgg143
  z66 := Tryd.sizeOf143
  v66 := Tryd.zeroValue143
  t70 := Tryd.underlying147
  a70 := Tryd.isAgg147
  z70 := Tryd.sizeOf147
  v70 := Tryd.zeroValue147
  t76 := Tryd.underlying151
  a76 := Tryd.isAgg151
  z76 := Tryd.sizeOf151
  v76 := Tryd.zeroValue151
  t77 := Tryd.underlying152
  a77 := Tryd.isAgg152
  z77 := Tryd.sizeOf152
  v77 := Tryd.zeroValue152 }
end Go.Proofs.YticickigndgpcaaDoor
namespace Go.Proofs.YticickigndgpcaaDoor
open Go.RowKit
open Go.Sort Go.Shelf
theorem regrown {w w' : World} (h : Fr (fun k => w.heap.size ≤ k) w w') (hd : w.drawn ≤ w'.drawn) : ∃ q os, w' = grow (w.drewN q) os := by
  refine ⟨w'.drawn - w.drawn, w'.heap.extract w.heap.size w'.heap.size, ?_⟩
  obtain ⟨heap', tape', drawn', os', output'⟩ := w'
  obtain ⟨heap, tape, drawn, os, output⟩ := w
  have e1 := h.os; have e2 := h.tape; have e3 := h.output; have e4 := h.size
  simp only at e1 e2 e3 e4 hd
  subst e1; subst e2; subst e3
  have e5 : heap' = heap ++ heap'.extract heap.size heap'.size := by
    refine Array.ext_getElem? fun i => ?_
    rw [Array.getElem?_append]
    split
    · rename_i hi
      have := h.block i hi (by show ¬ heap.size ≤ i; omega)
      exact this
    · rename_i hi
      rw [Array.getElem?_extract]
      split
      · congr 1; omega
      · rename_i h2; rw [Array.getElem?_eq_none (by omega)]
  simp only [grow, World.drewN, World.mk.injEq, true_and]
  exact ⟨e5, by omega, trivial⟩
theorem calls_grow {P : Program} {f : FuncId} {args : List AV} {vals : Array Value} {v : AV} (W : World) (hm : Meets P f args [] v []) (hl : args.length = vals.size) (hr : ∀ (i : Nat) x y, args[i]? = some x → vals[i]? = some y → Rel Emb.nil x y) :
    Calls P f vals W fun e w' => (∃ y E, e = .returned y ∧ Rel E v y) ∧ ∃ q os', w' = grow (W.drewN q) os' := by
  refine (hm (topE W) (fun k => W.heap.size ≤ k) W.heap.size vals W (fun g hg => ⟨sizeAt W g, by simp [topE]; omega⟩) (fun b hb => by simp [topE]; omega) hl (fun i x y hx hy => (hr i x y hx hy).mono (Emb.nil_le _)) ⟨fun b k hb => (by cases hb), fun b _ k _ _ _ _ hb => (by cases hb), fun b k _ _ hb => (by cases hb), fun a L s ha => (by cases ha)⟩ (fun _ h => h) (Nat.le_refl _)).mono fun e w' hh => ?_
  obtain ⟨y, E', h1, _, h2, _, hF⟩ := hh
  exact ⟨⟨y, E', h1, h2⟩, regrown hF hF.dr⟩
theorem lessLays (blk off size : Nat) (w : World) : CmpLays Tryd.prog 51 #[] Ls.vs 5 cmpL blk off size w := fun m os dk _ x y => by
  refine (calls_grow (args := [lsV x, lsV y]) (vals := #[.agg x.vs.toArray, .agg y.vs.toArray]) _ (less_ev x y) rfl (fun i u v hu hv => ?_)).mono fun e w' hh => ?_
  · match i, hu, hv with
    | 0, hu, hv => injection hu with hu; injection hv with hv; subst hu; subst hv; exact ls_rel x _
    | 1, hu, hv => injection hu with hu; injection hv with hv; subst hu; subst hv; exact ls_rel y _
    | n + 2, hu, _ => simp at hu
  · obtain ⟨⟨v, E, h1, h2⟩, h3⟩ := hh
    exact ⟨by rw [h1, h2.i64_inv], h3⟩
theorem ltOf_cmpL (x y : Ls) : ltOf cmpL x y = decide (kLt x y) := by
  unfold ltOf
  by_cases h : kLt x y
  · rw [decide_eq_true h, decide_eq_true (cmpL_neg.2 h)]
  · rw [decide_eq_false h, decide_eq_false (fun k => h (cmpL_neg.1 k))]
theorem swoL : SWO (ltOf cmpL) where
  irrefl x := by rw [ltOf_cmpL]; exact decide_eq_false (kLt_irrefl x)
  trans x y z h k := by
    rw [ltOf_cmpL] at *
    exact decide_eq_true (kLt_trans (of_decide_eq_true h) (of_decide_eq_true k))
  ntrans x y z h k := by
    rw [ltOf_cmpL] at *
    refine decide_eq_false fun hxz => ?_
    have h' := of_decide_eq_false h
    have k' := of_decide_eq_false k
    rcases kLt_tri x y with q | q | q
    · exact h' q
    · exact k' (kLt_congr hxz q ⟨rfl, rfl⟩)
    · exact k' (kLt_trans q hxz)
def lsVs : List Ls → List Value
  | [] => []
  | x :: r => x.vs ++ lsVs r
theorem lsVs_len (l : List Ls) : (lsVs l).length = l.length * 5 := by
  induction l with
  | nil => rfl
  | cons x r ih => show (x.vs ++ lsVs r).length = _; rw [List.length_append, ih]; show 5 + _ = (r.length + 1) * 5; omega
theorem cell_rel (x : Ls) (i : Nat) (u : AV) (v : Value) (hu : x.cs[i]? = some u) (hv : x.vs[i]? = some v) (E : Emb) : Rel E u v := by
  match i, hu, hv with
  | 0, hu, hv => injection hu with hu; injection hv with hv; subst hu; subst hv; exact .str _
  | 1, hu, hv => injection hu with hu; injection hv with hv; subst hu; subst hv; exact .str _
  | 2, hu, hv => injection hu with hu; injection hv with hv; subst hu; subst hv; exact .i64 _
  | 3, hu, hv => injection hu with hu; injection hv with hv; subst hu; subst hv; exact .i64 _
  | 4, hu, hv => injection hu with hu; injection hv with hv; subst hu; subst hv; exact .i64 _
  | n + 5, hu, _ => simp [Ls.cs] at hu
theorem cell_val (x : Ls) (i : Nat) (u : AV) (v : Value) (hu : x.cs[i]? = some u) {E : Emb} {y : Value} (hr : Rel E u y) (hv : x.vs[i]? = some v) : y = v := by
  match i, hu, hv with
  | 0, hu, hv => injection hu with hu; injection hv with hv; subst hu; subst hv; exact hr.str_inv
  | 1, hu, hv => injection hu with hu; injection hv with hv; subst hu; subst hv; exact hr.str_inv
  | 2, hu, hv => injection hu with hu; injection hv with hv; subst hu; subst hv; exact hr.i64_inv
  | 3, hu, hv => injection hu with hu; injection hv with hv; subst hu; subst hv; exact hr.i64_inv
  | 4, hu, hv => injection hu with hu; injection hv with hv; subst hu; subst hv; exact hr.i64_inv
  | n + 5, hu, _ => simp [Ls.cs] at hu
theorem cells_split {α β : Type} (f : α → List β) {n : Nat} (hn : ∀ x, (f x).length = n) (x : α) (r : List β) (i : Nat) : (f x ++ r)[i]? = if i < n then (f x)[i]? else r[i - n]? := by
  rw [List.getElem?_append, hn x]
theorem lsVs_at : ∀ (l : List Ls) (i : Nat), i < l.length * 5 → (lsVs l)[i]? = some ((l.toArray[i / 5]!).vs[i % 5]!)
  | [], i, h => by simp at h
  | x :: r, i, h => by
    show (x.vs ++ lsVs r)[i]? = _
    rw [cells_split Ls.vs (n := 5) (fun _ => rfl)]
    by_cases hi : i < 5
    · rw [if_pos hi]
      have e1 : i / 5 = 0 := by omega
      have e2 : i % 5 = i := by omega
      rw [e1, e2]
      show x.vs[i]? = some x.vs[i]!
      have : i < x.vs.length := hi
      rw [List.getElem?_eq_getElem this, getElem!_pos x.vs i this]
    · rw [if_neg hi, lsVs_at r (i - 5) (by simp only [List.length_cons] at h; omega)]
      have e1 : i / 5 = (i - 5) / 5 + 1 := by omega
      have e2 : i % 5 = (i - 5) % 5 := by omega
      rw [e1, e2]
      congr 2
      simp
theorem flatK_eq (d : Array Ls) (t : Nat) (h : t < d.size * 5) : (lsVs d.toList)[t]? = some ((flatK Ls.vs 5 d)[t]!) := by
  rw [lsVs_at d.toList t (by simpa using h), get_flatK Ls.vs 5 d t h]
theorem rows_rel : ∀ (l : List Ls) (i : Nat) (u : AV) (v : Value), (lsC l)[i]? = some u → (lsVs l)[i]? = some v → ∀ E, Rel E u v
  | [], i, u, v, hu, _ => by simp [lsC] at hu
  | x :: r, i, u, v, hu, hv => by
    have hu : (x.cs ++ lsC r)[i]? = some u := hu
    have hv : (x.vs ++ lsVs r)[i]? = some v := hv
    rw [cells_split Ls.cs (n := 5) (fun _ => rfl)] at hu
    rw [cells_split Ls.vs (n := 5) (fun _ => rfl)] at hv
    split at hu
    · rename_i h; rw [if_pos h] at hv; exact fun E => cell_rel x i u v hu hv E
    · rename_i h; rw [if_neg h] at hv; exact rows_rel r (i - 5) u v hu hv
theorem rows_val : ∀ (l : List Ls) (i : Nat) (u : AV) (v y : Value) (E : Emb), (lsC l)[i]? = some u → Rel E u y → (lsVs l)[i]? = some v → y = v
  | [], i, u, v, y, E, hu, _, _ => by simp [lsC] at hu
  | x :: r, i, u, v, y, E, hu, hr, hv => by
    have hu : (x.cs ++ lsC r)[i]? = some u := hu
    have hv : (x.vs ++ lsVs r)[i]? = some v := hv
    rw [cells_split Ls.cs (n := 5) (fun _ => rfl)] at hu
    rw [cells_split Ls.vs (n := 5) (fun _ => rfl)] at hv
    split at hu
    · rename_i h; rw [if_pos h] at hv; exact cell_val x i u v hu hr hv
    · rename_i h; rw [if_neg h] at hv; exact rows_val r (i - 5) u v y E hu hr hv
theorem perm_list {d d' : Array Ls} (h : PermIn 0 d.size d d') : d'.toList.Perm d.toList := by
  have h3 := h.2.2
  rw [Array.extract_size, ← h.1, Array.extract_size] at h3
  exact h3
theorem sorted_list {d : Array Ls} (h : SortedIn (ltOf cmpL) 0 d.size d) : d.toList.Pairwise fun x y => ¬ kLt y x := by
  rw [List.pairwise_iff_getElem]
  intro i j hi hj hij
  have := h i j (Nat.zero_le _) hij (by simpa using hj)
  rw [ltOf_cmpL, getElem!_pos d j (by simpa using hj), getElem!_pos d i (by simpa using hi)] at this
  exact of_decide_eq_false this
theorem one_vs (x : Ls) : ∀ v ∈ x.vs, v.oneCell' = true := by
  intro v hv
  simp only [Ls.vs, List.mem_cons, List.not_mem_nil, or_false] at hv
  rcases hv with rfl | rfl | rfl | rfl | rfl <;> rfl
set_option maxHeartbeats 1000000 in
theorem sort_ev {F L : List Ls} (hp : F.Perm L) (hL : Asc L) (hn : F.length ≤ 1000000) : Meets Tryd.prog 50 [.sl 500 0 F.length 5, .val (.func (.func 51) #[] #[])] [(500, some ⟨.agg (lsC F), 45, true⟩)] (.tup []) [(500, some ⟨.agg (lsC L), 45, true⟩)] := by
  intro E S n0 vals w hg htop hl hr hR hS h0
  obtain ⟨x, y, rfl, hx, hy⟩ := args2 hl hr
  have hy2 := hy.val_inv
  subst hy2
  have eg : ∀ args w, (callFunc 51 args).run Tryd.prog w = .ok (.enter 51 args) w := enters_of Tryd.func51 (by kernel_rfl) rfl
  have hk : hget [(500, some (⟨.agg (lsC F), 45, true⟩ : ABlk))] 500 = some ⟨.agg (lsC F), 45, true⟩ := rfl
  obtain ⟨l, s, hE, hB⟩ := hR.blkR hk rfl
  obtain ⟨arr, tq, fz, g1, g2, g3, g4, g5⟩ := hB
  have hlc : (AV.agg (lsC F)).list.length = F.length * 5 := lsC_len F
  rcases hx.sl_inv with ⟨l', s', cap, q1, q2, q3, q4, rfl⟩ | ⟨ad, q1, rfl⟩
  · rw [hE] at q1; injection q1 with q1; injection q1 with e1 e2; subst e1; subst e2
    have hcell : ∀ t, t < F.length * 5 → arr[t]? = (lsVs F)[t]? := fun t ht => by
      have hc : t < (lsC F).length := by rw [lsC_len]; exact ht
      have hv : t < (lsVs F).length := by rw [lsVs_len]; exact ht
      obtain ⟨_, v, hv1, hv2⟩ := g5 t (lsC F)[t] (List.getElem?_eq_getElem hc)
      rw [hv1, List.getElem?_eq_getElem hv]
      exact congrArg some (rows_val F t _ _ v E (List.getElem?_eq_getElem hc) hv2 (List.getElem?_eq_getElem hv))
    have hH : HoldsK Ls.vs 5 w l 0 F.toArray := fun j hj => by
      have hj' : j < F.length * 5 := by simpa using hj
      refine ⟨?_, ?_⟩
      · show (match w.heap[l]? with | some (.cells c _ _) => if (none : Option Nat).isSome then none else c[0 + j]? | _ => none) = _
        rw [g1, Nat.zero_add]
        show arr[j]? = _
        rw [hcell j hj']
        exact flatK_eq F.toArray j (by simpa using hj')
      · show (match w.heap[l]? with | some (.cells _ _ (lo, hi)) => decide (lo ≤ 0 + j) && decide (0 + j < hi) | _ => false) = _
        rw [g1, Nat.zero_add]
        show (decide (fz.1 ≤ j) && decide (j < fz.2)) = false
        have := g3.1.w rfl j (by have : (AV.agg (lsC F)).list.length ≤ s := g4; omega)
        by_cases a1 : fz.1 ≤ j
        · have a2 : ¬ j < fz.2 := fun a2 => this ⟨a1, a2⟩
          simp [a2]
        · simp [a1]
    have hblk : l < w.heap.size := lt_of_heap g1
    refine (AnyQ.slices_SortFunc shLease 5 (fun w => Tryd.isAgg45 w) (fun w => Tryd.sizeOf45 w) Ls.vs (fun _ => rfl) one_vs cmpL swoL 51 #[] l 0 cap F.toArray w eg (lessLays l 0 _ w) hH hblk (by show F.length < _; omega)).mono fun e w' hh => ?_
    obtain ⟨he, d', m, os, hperm, hsort, hw⟩ := hh
    have hd : d'.toList = L := by
      have hs : d'.size = F.toArray.size := hperm.1
      rw [← hs] at hsort
      exact hL.unique (sorted_list hsort) ((perm_list hperm).trans hp)
    have hds : d'.size = F.length := by simpa using hperm.1
    have hLs : L.length = F.length := hp.length_eq.symm
    refine ⟨.tuple #[], E, he, Emb.kp_refl _ _, .tup [] #[] rfl (fun i x y hx => by simp at hx), ?_, ?_⟩
    · have hRw := hR.write hk rfl hE arr (putCells id 0 (flatK Ls.vs 5 d') arr) tq fz g1 (by simp [putCells]) (.agg (lsC L)) (by show (lsC L).length ≤ _; rw [lsC_len, hLs]; simp only [putCells, Array.size_mapIdx]; have : (AV.agg (lsC F)).list.length ≤ s := g4; omega) (fun i u hu => ?_)
      · have hRw2 : RH E S (hget [(500, some (⟨.agg (lsC L), 45, true⟩ : ABlk))]) (w.setRow l (putCells id 0 (flatK Ls.vs 5 d') arr)) := hRw.less fun b k hb => by
          simp only [hget, upd, lk] at hb ⊢
          split at hb
          · rename_i e1; simpa [e1] using hb
          · cases hb
        refine RH.same hRw2 fun b hb => ?_
        have hsz : (w.setRow l (putCells id 0 (flatK Ls.vs 5 d') arr)).heap.size = w.heap.size := by simp [World.setRow]
        rw [hw]
        unfold sortWorldK
        rw [heap_grow_old _ _ (by simp only [putRowK, putRow, mapBlock, Array.size_modify]; show b < w.heap.size; omega)]
        simp only [putRowK, putRow, mapBlock, World.setRow, Array.getElem?_modify, Sort.ahead]
        by_cases e1 : l = b
        · subst e1
          simp only [if_true, g1, Option.map_some]
          rfl
        · simp [e1]
      · have hi : i < (lsC L).length := (List.getElem?_eq_some_iff.1 hu).1
        rw [lsC_len] at hi
        refine ⟨AV.cell_of (List.all_eq_true.1 (lsC_one L) u (List.mem_of_getElem? hu)), (flatK Ls.vs 5 d')[i]!, ?_, ?_⟩
        · have ha : i < arr.size := by have : (AV.agg (lsC F)).list.length ≤ s := g4; omega
          simp only [putCells, Array.getElem?_mapIdx, Array.getElem?_eq_getElem ha, Option.map_some]
          rw [if_pos ⟨Nat.zero_le _, by simp [hds]; omega⟩]
          rfl
        · have hv := flatK_eq d' i (by rw [hds]; omega)
          rw [hd] at hv
          exact rows_rel L i u _ hu hv E
    · refine ⟨?_, ?_, ?_, ?_, fun q hq hn => ?_, ?_⟩
      · rw [hw]; rfl
      · rw [hw]; rfl
      · rw [hw]; rfl
      · rw [hw]; simp [sortWorldK, grow, putRowK, putRow, mapBlock, Sort.ahead]
      · rw [hw]
        unfold sortWorldK
        rw [heap_grow_old _ _ (by simp only [putRowK, putRow, mapBlock, Array.size_modify]; exact hq)]
        simp only [putRowK, putRow, mapBlock, Array.getElem?_modify, Sort.ahead]
        rw [if_neg fun e1 => hn (by rw [← e1]; exact hR.own 500 _ l s hk rfl hE)]
      · rw [hw]; exact Nat.le_add_right _ _
  · have hF : F = [] := by cases F with | nil => rfl | cons z r => simp at q1
    subst hF
    have hL0 : L = [] := List.eq_nil_of_length_eq_zero (by rw [← hp.length_eq]; rfl)
    subst hL0
    refine (AnyF.slices_SortFunc_none { shLease with } ad 0 _ w).mono fun e w' hh => ?_
    obtain ⟨he, rfl⟩ := hh
    exact ⟨.tuple #[], E, he, Emb.kp_refl _ _, .tup [] #[] rfl (fun i x y hx => by simp at hx), hR, Fr.refl _ _⟩
theorem sortNil_ev : Meets Tryd.prog 50 [.nilsl, .val (.func (.func 51) #[] #[])] [] (.tup []) [] :=
  meets_of_walk fun E S vals w hg hl hr hR => by
    obtain ⟨x, y, rfl, hx, hy⟩ := args2 hl hr
    rw [hx.nilsl_inv]
    refine (AnyF.slices_SortFunc_none { shLease with } none 0 y w).mono fun e w' hh => ?_
    obtain ⟨he, hw⟩ := hh
    exact ⟨.tuple #[], he, .tup [] #[] rfl (fun i x y hx => by simp at hx), .of_eq hw⟩
end Go.Proofs.YticickigndgpcaaDoor
