/-
  Texts of this claim.
-/
import Derived.DeepKeys4
import Derived.Test.YtemifioopeeipaaDoorGE
import Derived.Test.YtemifioopeeipaaDoorGP2
import Derived.Test.YtemifioopeeipaaDoorGP1
namespace Go.Proofs.YtemifioopeeipaaDoor
open Go.RowKit
theorem laid_out : laidOutB Tryd.prog = true := by kernel_rfl
/-- The name "a" of the tenant "t", as a key. -/
def nmV : Value := .agg #[.string ⟨#[116]⟩, .string ⟨#[97]⟩]
/-- The name "b" of the tenant "t". -/
def nmW : Value := .agg #[.string ⟨#[116]⟩, .string ⟨#[98]⟩]
theorem nm_law : Maps.Keyed Tryd.prog 77 := Maps.Keyed.of_law (deep_law_laid laid_out (m := 2) (by omega) (by decide +kernel) (by kernel_rfl) (by rw [Tryd.underlying77]))
theorem nm_is : (keyOf Tryd.prog 77 nmV).isSome = true := by kernel_rfl
theorem nm_isW : (keyOf Tryd.prog 77 nmW).isSome = true := by kernel_rfl
theorem nm_val (s t : List UInt8) (E : Emb) (y : Value) (h : Rel E (.agg [.str s, .str t]) y) : y = .agg #[.string ⟨s.toArray⟩, .string ⟨t.toArray⟩] := by
  obtain ⟨ds, rfl, h2, _, h4⟩ := h.agg_inv rfl
  match ds, h2, h4 with
  | ⟨[a, b]⟩, _, h4 =>
    have ha := (h4 0 (.str s) a rfl rfl).str_inv
    have hb := (h4 1 (.str t) b rfl rfl).str_inv
    subst ha; subst hb; rfl
theorem keys0 : KeysOk Tryd.prog 77 [] (.agg [.str [116], .str [97]]) nmV := ⟨nm_law, by simp, nm_is, nm_val _ _⟩
theorem keys1 : KeysOk Tryd.prog 77 [nmV] (.agg [.str [116], .str [97]]) nmV := ⟨nm_law, by simp [nm_is], nm_is, nm_val _ _⟩
theorem keysW : KeysOk Tryd.prog 77 [nmV] (.agg [.str [116], .str [98]]) nmW := ⟨nm_law, by simp [nm_is], nm_isW, nm_val _ _⟩
theorem one_at (j : Nat) : [nmV][j]? = some nmV ↔ j = 0 := by
  cases j with
  | zero => simp
  | succ j => simp
theorem none_at (j : Nat) : ([] : List Value)[j]? ≠ some nmV := by simp
theorem nmVW : nmV ≠ nmW := fun h => by simp [nmV, nmW] at h
theorem other_at (j : Nat) : [nmV][j]? ≠ some nmW := by
  cases j with
  | zero => simpa using nmVW
  | succ j => simp
/-- A tick that may be. -/
def tickV (n : Int) : Int := min (max n 0) 1099511627776
set_option maxRecDepth 100000 in
theorem tick_ev (n : Int) : Meets Tryd.prog 32 [.i64 n] [] (.i64 (tickV n)) [] := by
 refine meets_of_ev (nt := 6) Tryd.func32 rfl rfl (Nat.le_of_ble_eq_true rfl) ?_
 refine .seq ?_
 refine .region ?_
 refine .q (op_assign rfl) trivial rfl ?_
 refine .nil ?_
 show Ev _ _ _ _ _
 refine .seq ?_
 refine .region ?_
 refine .q (op_move rfl) trivial rfl ?_
 refine .q (op_maxI rfl rfl) trivial rfl ?_
 refine .q (op_minI rfl rfl) trivial rfl ?_
 refine .q (op_assign rfl) trivial rfl ?_
 refine .nil ?_
 show Ev _ _ _ _ _
 refine .ret ?_
 show RetOk _ _ _ _ _ _ _
 exact ret1v rfl (.inl rfl) rfl (rfl) trivial
set_option maxRecDepth 100000 in
theorem new_ev (a b c : Int) : Meets Tryd.prog 8 [.agg [.i64 a, .i64 b, .i64 c]] [] (.ptr 1024 0) [(1024, some ⟨.agg [.i64 (min (max a 0) 64), .i64 (min (max b 0) 4096), .i64 (min (max c 1) 1073741824), .mp 1016, .i64 0], 60, true⟩), (1016, some ⟨.mapc [] [] [] 0, 0, true⟩)] := by
 refine meets_of_ev (nt := 21) Tryd.func8 rfl rfl (Nat.le_of_ble_eq_true rfl) ?_
 refine .seq ?_
 refine .region ?_
 refine .a (op_boxRow rfl rfl) trivial rfl ?_
 refine .q (op_assign rfl) trivial rfl ?_
 refine .nil ?_
 show Ev _ _ _ _ _
 refine .seq ?_
 refine .region ?_
 refine .q (op_fieldAddr (m := 0) Tryd.underlying23 rfl (by kernel_rfl) rfl) trivial rfl ?_
 refine .as (.ptr 1000 0) rfl ?_
 refine .q (op_load Tryd.underlying3 rfl rfl rfl rfl (by first | omega | (simp only [AV.len]; omega) | (simp only [AV.len]; omega) | assumption | (simp [AV.len]; done))) trivial rfl ?_
 refine .q (op_maxI rfl rfl) trivial rfl ?_
 refine .q (op_minI rfl rfl) trivial rfl ?_
 refine .q (op_fieldAddr (m := 0) Tryd.underlying23 rfl (by kernel_rfl) rfl) trivial rfl ?_
 refine .as (.ptr 1000 1) rfl ?_
 refine .q (op_load Tryd.underlying3 rfl rfl rfl rfl (by first | omega | (simp only [AV.len]; omega) | (simp only [AV.len]; omega) | assumption | (simp [AV.len]; done))) trivial rfl ?_
 refine .q (op_maxI rfl rfl) trivial rfl ?_
 refine .q (op_minI rfl rfl) trivial rfl ?_
 refine .q (op_fieldAddr (m := 0) Tryd.underlying23 rfl (by kernel_rfl) rfl) trivial rfl ?_
 refine .as (.ptr 1000 2) rfl ?_
 refine .q (op_load Tryd.underlying3 rfl rfl rfl rfl (by first | omega | (simp only [AV.len]; omega) | (simp only [AV.len]; omega) | assumption | (simp [AV.len]; done))) trivial rfl ?_
 refine .q (op_maxI rfl rfl) trivial rfl ?_
 refine .q (op_minI rfl rfl) trivial rfl ?_
 refine .q (op_buildS (r := .agg _) Tryd.underlying23 rfl zero23 rel_zero23 rfl rfl rfl rfl) trivial rfl ?_
 refine .a (op_allocRow zero23 rel_zero23 rfl) trivial rfl ?_
 refine .w (op_storeRow (by kernel_rfl) rfl rfl rfl rfl rfl (rfl) (rfl)) trivial rfl ?_
 refine .nil ?_
 show Ev _ _ _ _ _
 refine .seq ?_
 refine .region ?_
 refine .q (op_loadRow Tryd.underlying23 rfl (by kernel_rfl) rfl rfl rfl (rfl)) trivial rfl ?_
 refine .a (op_makeMap 0 (c := .mapc [] [] [] 0)) trivial rfl ?_
 refine .q (op_buildS (r := .agg _) Tryd.underlying60 rfl zero60 rel_zero60 rfl rfl rfl rfl) trivial rfl ?_
 refine .a (op_boxRow rfl rfl) trivial rfl ?_
 refine .q (op_assign rfl) trivial rfl ?_
 refine .nil ?_
 show Ev _ _ _ _ _
 refine .ret ?_
 show RetOk _ _ _ _ _ _ _
 exact ret1v rfl (.inl rfl) rfl rfl ⟨rfl, rfl, trivial⟩
set_option maxRecDepth 100000 in
theorem find1_ev (a b c ep o e l : Int) (bn ck : Nat) : Meets Tryd.prog 17 [.ptr 500 0, .str [116], .str [97]] [(500, some ⟨.agg [.i64 a, .i64 b, .i64 c, .mp 501, .i64 ep], 60, false⟩), (501, some ⟨.mapc [nmV] [.agg [.str [116], .str [97], .i64 o, .i64 e, .i64 l]] [bn] ck, 0, false⟩)] (.tup [.agg [.str [116], .str [97], .i64 o, .i64 e, .i64 l], .val .nilIface]) [] := by
 refine meets_of_ev (nt := 26) Tryd.func17 rfl rfl (Nat.le_of_ble_eq_true rfl) ?_
 refine .seq ?_
 refine .region ?_
 refine .a (op_allocRow zero43 rel_zero43 rfl) trivial rfl ?_
 refine .q (op_assign rfl) trivial rfl ?_
 refine .nil ?_
 show Ev _ _ _ _ _
 refine .seq ?_
 refine .region ?_
 refine .q (op_move rfl) trivial rfl ?_
 refine .q (op_nilCheck rfl) trivial rfl ?_
 refine .q (op_fieldAddr (m := 0) Tryd.underlying60 rfl (by kernel_rfl) rfl) trivial rfl ?_
 refine .as (.ptr 500 3) rfl ?_
 refine .q (op_load Tryd.underlying58 rfl rfl rfl rfl (by first | omega | (simp only [AV.len]; omega) | (simp only [AV.len]; omega) | assumption | (simp [AV.len]; done))) trivial rfl ?_
 refine .q (op_move rfl) trivial rfl ?_
 refine .q (op_move rfl) trivial rfl ?_
 refine .q (op_buildS (r := .agg _) Tryd.underlying77 rfl zero77 rel_zero77 rfl rfl rfl rfl) trivial rfl ?_
 refine .q (op_lookupY (i := 0) keys1 Tryd.underlying58 rfl rfl rfl rfl one_at rfl (fun _ _ h => h)) trivial rfl ?_
 refine .q (op_move rfl) trivial rfl ?_
 refine .q (op_extract rfl rfl) trivial rfl ?_
 refine .q (op_extract rfl rfl) trivial rfl ?_
 refine .a (op_allocRow zero43 rel_zero43 rfl) trivial rfl ?_
 refine .w (op_storeRow (by kernel_rfl) rfl rfl rfl rfl rfl (rfl) (rfl)) trivial rfl ?_
 refine .q (op_assign rfl) trivial rfl ?_
 refine .nil ?_
 show Ev _ _ _ _ _
 refine .seq ?_
 refine .seq ?_
 refine .region ?_
 refine .q (op_move rfl) trivial rfl ?_
 refine .q (op_notB rfl) trivial rfl ?_
 refine .nil ?_
 show Ev _ _ _ _ _
 refine .cond_false rfl (rfl) ?_
 refine .skip ?_
 show Ev _ _ _ _ _
 refine .seq ?_
 refine .region ?_
 refine .q (op_loadRow Tryd.underlying43 rfl (by kernel_rfl) rfl rfl rfl (rfl)) trivial rfl ?_
 refine .w (op_storeRow (by kernel_rfl) rfl rfl rfl rfl rfl (rfl) (rfl)) trivial rfl ?_
 refine .q (op_assign rfl) trivial rfl ?_
 refine .nil ?_
 show Ev _ _ _ _ _
 refine .ret ?_
 show RetOk _ _ _ _ _ _ _
 exact retc2 rfl (.inl rfl) ⟨_, _, _, _, rfl, rfl, rfl, rfl, rfl, Tryd.underlying43, rfl, sz43⟩ rfl trivial
set_option maxRecDepth 100000 in
theorem find0_ev (a b c ep : Int) ( ck : Nat) (eo : Nat → Nat × Nat) : Meets Tryd.prog 17 [.ptr 500 0, .str [116], .str [97]] [(500, some ⟨.agg [.i64 a, .i64 b, .i64 c, .mp 501, .i64 ep], 60, false⟩), (501, some ⟨.mapc [] [] [] ck, 0, false⟩), (2, some ⟨.agg [.err 124 (8) (offE eo (8))], errT, false⟩)] (.tup [.agg [.str [], .str [], .i64 0, .i64 0, .i64 0], .err 124 (8) (offE eo (8))]) [] := by
 refine meets_of_ev (nt := 26) Tryd.func17 rfl rfl (Nat.le_of_ble_eq_true rfl) ?_
 refine .seq ?_
 refine .region ?_
 refine .a (op_allocRow zero43 rel_zero43 rfl) trivial rfl ?_
 refine .q (op_assign rfl) trivial rfl ?_
 refine .nil ?_
 show Ev _ _ _ _ _
 refine .seq ?_
 refine .region ?_
 refine .q (op_move rfl) trivial rfl ?_
 refine .q (op_nilCheck rfl) trivial rfl ?_
 refine .q (op_fieldAddr (m := 0) Tryd.underlying60 rfl (by kernel_rfl) rfl) trivial rfl ?_
 refine .as (.ptr 500 3) rfl ?_
 refine .q (op_load Tryd.underlying58 rfl rfl rfl rfl (by first | omega | (simp only [AV.len]; omega) | (simp only [AV.len]; omega) | assumption | (simp [AV.len]; done))) trivial rfl ?_
 refine .q (op_move rfl) trivial rfl ?_
 refine .q (op_move rfl) trivial rfl ?_
 refine .q (op_buildS (r := .agg _) Tryd.underlying77 rfl zero77 rel_zero77 rfl rfl rfl rfl) trivial rfl ?_
 refine .q (op_lookupN (v := .agg [.str [], .str [], .i64 0, .i64 0, .i64 0]) keys0 Tryd.underlying58 zero43 rel_zero43 rfl rfl rfl rfl none_at) trivial rfl ?_
 refine .q (op_move rfl) trivial rfl ?_
 refine .q (op_extract rfl rfl) trivial rfl ?_
 refine .q (op_extract rfl rfl) trivial rfl ?_
 refine .a (op_allocRow zero43 rel_zero43 rfl) trivial rfl ?_
 refine .w (op_storeRow (by kernel_rfl) rfl rfl rfl rfl rfl (rfl) (rfl)) trivial rfl ?_
 refine .q (op_assign rfl) trivial rfl ?_
 refine .nil ?_
 show Ev _ _ _ _ _
 refine .seq ?_
 refine .seq ?_
 refine .region ?_
 refine .q (op_move rfl) trivial rfl ?_
 refine .q (op_notB rfl) trivial rfl ?_
 refine .nil ?_
 show Ev _ _ _ _ _
 refine .cond_true rfl (rfl) ?_
 refine .seq ?_
 refine .drawnF [[], [], [0], [0, 1, 2]] [1, 2] [] [(1, ([2], [])), (2, ([], [1000]))] (by kernel_rfl) (by kernel_rfl) rfl ?_
 show DK _ [0, 1, 2, 3] _ _ _
 refine .q rfl (op_buildS (r := .agg _) Tryd.underlying43 rfl zero43 rel_zero43 rfl rfl rfl rfl) trivial ?_
 refine .q rfl (op_load Tryd.underlying45 rfl rfl rfl rfl (by first | omega | (simp only [AV.len]; omega) | (simp only [AV.len]; omega) | assumption | (simp [AV.len]; done))) trivial ?_
 refine .w rfl (op_storeRow (by kernel_rfl) rfl rfl rfl rfl rfl (rfl) (rfl)) trivial rfl rfl ?_
 refine .q rfl (op_assign rfl) trivial ?_
 refine .nil ?_
 show Ev _ _ _ _ _
 refine .ret ?_
 show RetOk _ _ _ _ _ _ _
 exact retc2 rfl (.inl rfl) ⟨_, _, _, _, rfl, rfl, rfl, rfl, rfl, Tryd.underlying43, rfl, sz43⟩ rfl trivial
set_option maxRecDepth 100000 in
theorem findW_ev (a b c ep o e l : Int) (bn ck : Nat) (eo : Nat → Nat × Nat) : Meets Tryd.prog 17 [.ptr 500 0, .str [116], .str [98]] [(500, some ⟨.agg [.i64 a, .i64 b, .i64 c, .mp 501, .i64 ep], 60, false⟩), (501, some ⟨.mapc [nmV] [.agg [.str [116], .str [97], .i64 o, .i64 e, .i64 l]] [bn] ck, 0, false⟩), (2, some ⟨.agg [.err 124 (8) (offE eo (8))], errT, false⟩)] (.tup [.agg [.str [], .str [], .i64 0, .i64 0, .i64 0], .err 124 (8) (offE eo (8))]) [] := by
 refine meets_of_ev (nt := 26) Tryd.func17 rfl rfl (Nat.le_of_ble_eq_true rfl) ?_
 refine .seq ?_
 refine .region ?_
 refine .a (op_allocRow zero43 rel_zero43 rfl) trivial rfl ?_
 refine .q (op_assign rfl) trivial rfl ?_
 refine .nil ?_
 show Ev _ _ _ _ _
 refine .seq ?_
 refine .region ?_
 refine .q (op_move rfl) trivial rfl ?_
 refine .q (op_nilCheck rfl) trivial rfl ?_
 refine .q (op_fieldAddr (m := 0) Tryd.underlying60 rfl (by kernel_rfl) rfl) trivial rfl ?_
 refine .as (.ptr 500 3) rfl ?_
 refine .q (op_load Tryd.underlying58 rfl rfl rfl rfl (by first | omega | (simp only [AV.len]; omega) | (simp only [AV.len]; omega) | assumption | (simp [AV.len]; done))) trivial rfl ?_
 refine .q (op_move rfl) trivial rfl ?_
 refine .q (op_move rfl) trivial rfl ?_
 refine .q (op_buildS (r := .agg _) Tryd.underlying77 rfl zero77 rel_zero77 rfl rfl rfl rfl) trivial rfl ?_
 refine .q (op_lookupN (v := .agg [.str [], .str [], .i64 0, .i64 0, .i64 0]) keysW Tryd.underlying58 zero43 rel_zero43 rfl rfl rfl rfl other_at) trivial rfl ?_
 refine .q (op_move rfl) trivial rfl ?_
 refine .q (op_extract rfl rfl) trivial rfl ?_
 refine .q (op_extract rfl rfl) trivial rfl ?_
 refine .a (op_allocRow zero43 rel_zero43 rfl) trivial rfl ?_
 refine .w (op_storeRow (by kernel_rfl) rfl rfl rfl rfl rfl (rfl) (rfl)) trivial rfl ?_
 refine .q (op_assign rfl) trivial rfl ?_
 refine .nil ?_
 show Ev _ _ _ _ _
 refine .seq ?_
 refine .seq ?_
 refine .region ?_
 refine .q (op_move rfl) trivial rfl ?_
 refine .q (op_notB rfl) trivial rfl ?_
 refine .nil ?_
 show Ev _ _ _ _ _
 refine .cond_true rfl (rfl) ?_
 refine .seq ?_
 refine .drawnF [[], [], [0], [0, 1, 2]] [1, 2] [] [(1, ([2], [])), (2, ([], [1000]))] (by kernel_rfl) (by kernel_rfl) rfl ?_
 show DK _ [0, 1, 2, 3] _ _ _
 refine .q rfl (op_buildS (r := .agg _) Tryd.underlying43 rfl zero43 rel_zero43 rfl rfl rfl rfl) trivial ?_
 refine .q rfl (op_load Tryd.underlying45 rfl rfl rfl rfl (by first | omega | (simp only [AV.len]; omega) | (simp only [AV.len]; omega) | assumption | (simp [AV.len]; done))) trivial ?_
 refine .w rfl (op_storeRow (by kernel_rfl) rfl rfl rfl rfl rfl (rfl) (rfl)) trivial rfl rfl ?_
 refine .q rfl (op_assign rfl) trivial ?_
 refine .nil ?_
 show Ev _ _ _ _ _
 refine .ret ?_
 show RetOk _ _ _ _ _ _ _
 exact retc2 rfl (.inl rfl) ⟨_, _, _, _, rfl, rfl, rfl, rfl, rfl, Tryd.underlying43, rfl, sz43⟩ rfl trivial
set_option maxRecDepth 100000 in
theorem put0_ev (a b c ep o e l : Int) (ck : Nat) : Meets Tryd.prog 33 [.ptr 500 0, .agg [.str [116], .str [97], .i64 o, .i64 e, .i64 l]] [(500, some ⟨.agg [.i64 a, .i64 b, .i64 c, .mp 501, .i64 ep], 60, false⟩), (501, some ⟨.mapc [] [] [] ck, 0, true⟩)] (.tup []) [(501, some ⟨.mapc [nmV] [.agg [.str [116], .str [97], .i64 o, .i64 e, .i64 l]] [ck] (ck + 1), 0, true⟩)] := by
 refine meets_of_ev (nt := 14) Tryd.func33 rfl rfl (Nat.le_of_ble_eq_true rfl) ?_
 refine .seq ?_
 refine .region ?_
 refine .a (op_boxRow rfl rfl) trivial rfl ?_
 refine .nil ?_
 show Ev _ _ _ _ _
 refine .drawn [[], [0], [0, 1], [0, 1, 2], [], [4], [], [6], [4, 5, 6, 7], [], [0, 1, 2, 3, 4, 5, 6, 7, 8, 9]] [3, 5, 7, 9, 10] [10] (by kernel_rfl) (by kernel_rfl) rfl ?_
 show DK _ [0, 1, 2, 3, 4, 5, 6, 7, 8, 9, 10] _ _ _
 refine .q rfl (op_move rfl) trivial ?_
 refine .q rfl (op_nilCheck rfl) trivial ?_
 refine .q rfl (op_fieldAddr (m := 0) Tryd.underlying60 rfl (by kernel_rfl) rfl) trivial ?_
 refine .as (.ptr 500 3) rfl ?_
 refine .q rfl (op_load Tryd.underlying58 rfl rfl rfl rfl (by first | omega | (simp only [AV.len]; omega) | (simp only [AV.len]; omega) | assumption | (simp [AV.len]; done))) trivial ?_
 refine .q rfl (op_fieldAddr (m := 0) Tryd.underlying43 rfl (by kernel_rfl) rfl) trivial ?_
 refine .as (.ptr 1000 0) rfl ?_
 refine .q rfl (op_load Tryd.underlying9 rfl rfl rfl rfl (by first | omega | (simp only [AV.len]; omega) | (simp only [AV.len]; omega) | assumption | (simp [AV.len]; done))) trivial ?_
 refine .q rfl (op_fieldAddr (m := 0) Tryd.underlying43 rfl (by kernel_rfl) rfl) trivial ?_
 refine .as (.ptr 1000 1) rfl ?_
 refine .q rfl (op_load Tryd.underlying9 rfl rfl rfl rfl (by first | omega | (simp only [AV.len]; omega) | (simp only [AV.len]; omega) | assumption | (simp [AV.len]; done))) trivial ?_
 refine .q rfl (op_buildS (r := .agg _) Tryd.underlying77 rfl zero77 rel_zero77 rfl rfl rfl rfl) trivial ?_
 refine .q rfl (op_loadRow Tryd.underlying43 rfl (by kernel_rfl) rfl rfl rfl (rfl)) trivial ?_
 refine .w rfl (op_mapPutN (c' := .mapc [nmV] [.agg [.str [116], .str [97], .i64 o, .i64 e, .i64 l]] [ck] (ck + 1)) keys0 Tryd.underlying58 rfl rfl rfl rfl rfl rfl none_at (fun _ _ h => h) rfl) trivial rfl rfl ?_
 refine .nil ?_
 show RetOk _ _ _ _ _ _ _
 exact ret0 rfl (.inr rfl) ⟨rfl, trivial⟩
set_option maxRecDepth 100000 in
theorem put1_ev (a b c ep o e l o2 e2 l2 : Int) (bn ck : Nat) : Meets Tryd.prog 33 [.ptr 500 0, .agg [.str [116], .str [97], .i64 o, .i64 e, .i64 l]] [(500, some ⟨.agg [.i64 a, .i64 b, .i64 c, .mp 501, .i64 ep], 60, false⟩), (501, some ⟨.mapc [nmV] [.agg [.str [116], .str [97], .i64 o2, .i64 e2, .i64 l2]] [bn] ck, 0, true⟩)] (.tup []) [(501, some ⟨.mapc [nmV] [.agg [.str [116], .str [97], .i64 o, .i64 e, .i64 l]] [bn] ck, 0, true⟩)] := by
 refine meets_of_ev (nt := 14) Tryd.func33 rfl rfl (Nat.le_of_ble_eq_true rfl) ?_
 refine .seq ?_
 refine .region ?_
 refine .a (op_boxRow rfl rfl) trivial rfl ?_
 refine .nil ?_
 show Ev _ _ _ _ _
 refine .drawn [[], [0], [0, 1], [0, 1, 2], [], [4], [], [6], [4, 5, 6, 7], [], [0, 1, 2, 3, 4, 5, 6, 7, 8, 9]] [3, 5, 7, 9, 10] [10] (by kernel_rfl) (by kernel_rfl) rfl ?_
 show DK _ [0, 1, 2, 3, 4, 5, 6, 7, 8, 9, 10] _ _ _
 refine .q rfl (op_move rfl) trivial ?_
 refine .q rfl (op_nilCheck rfl) trivial ?_
 refine .q rfl (op_fieldAddr (m := 0) Tryd.underlying60 rfl (by kernel_rfl) rfl) trivial ?_
 refine .as (.ptr 500 3) rfl ?_
 refine .q rfl (op_load Tryd.underlying58 rfl rfl rfl rfl (by first | omega | (simp only [AV.len]; omega) | (simp only [AV.len]; omega) | assumption | (simp [AV.len]; done))) trivial ?_
 refine .q rfl (op_fieldAddr (m := 0) Tryd.underlying43 rfl (by kernel_rfl) rfl) trivial ?_
 refine .as (.ptr 1000 0) rfl ?_
 refine .q rfl (op_load Tryd.underlying9 rfl rfl rfl rfl (by first | omega | (simp only [AV.len]; omega) | (simp only [AV.len]; omega) | assumption | (simp [AV.len]; done))) trivial ?_
 refine .q rfl (op_fieldAddr (m := 0) Tryd.underlying43 rfl (by kernel_rfl) rfl) trivial ?_
 refine .as (.ptr 1000 1) rfl ?_
 refine .q rfl (op_load Tryd.underlying9 rfl rfl rfl rfl (by first | omega | (simp only [AV.len]; omega) | (simp only [AV.len]; omega) | assumption | (simp [AV.len]; done))) trivial ?_
 refine .q rfl (op_buildS (r := .agg _) Tryd.underlying77 rfl zero77 rel_zero77 rfl rfl rfl rfl) trivial ?_
 refine .q rfl (op_loadRow Tryd.underlying43 rfl (by kernel_rfl) rfl rfl rfl (rfl)) trivial ?_
 refine .w rfl (op_mapPutY (i := 0) (c' := .mapc [nmV] [.agg [.str [116], .str [97], .i64 o, .i64 e, .i64 l]] [bn] ck) keys1 Tryd.underlying58 rfl rfl rfl rfl rfl rfl one_at (fun _ _ h => h) rfl) trivial rfl rfl ?_
 refine .nil ?_
 show RetOk _ _ _ _ _ _ _
 exact ret0 rfl (.inr rfl) ⟨rfl, trivial⟩
set_option maxRecDepth 100000 in
theorem remove_ev (a b c ep o e l o2 e2 l2 : Int) (bn ck : Nat) : Meets Tryd.prog 38 [.ptr 500 0, .agg [.str [116], .str [97], .i64 o, .i64 e, .i64 l]] [(500, some ⟨.agg [.i64 a, .i64 b, .i64 c, .mp 501, .i64 ep], 60, false⟩), (501, some ⟨.mapc [nmV] [.agg [.str [116], .str [97], .i64 o2, .i64 e2, .i64 l2]] [bn] ck, 0, true⟩)] (.tup []) [(501, some ⟨.mapc [] [] [] ck, 0, true⟩)] := by
 refine meets_of_ev (nt := 13) Tryd.func38 rfl rfl (Nat.le_of_ble_eq_true rfl) ?_
 refine .seq ?_
 refine .region ?_
 refine .a (op_boxRow rfl rfl) trivial rfl ?_
 refine .nil ?_
 show Ev _ _ _ _ _
 refine .drawn [[], [0], [0, 1], [0, 1, 2], [], [4], [], [6], [4, 5, 6, 7], [0, 1, 2, 3, 4, 5, 6, 7, 8]] [3, 5, 7, 9] [9] (by kernel_rfl) (by kernel_rfl) rfl ?_
 show DK _ [0, 1, 2, 3, 4, 5, 6, 7, 8, 9] _ _ _
 refine .q rfl (op_move rfl) trivial ?_
 refine .q rfl (op_nilCheck rfl) trivial ?_
 refine .q rfl (op_fieldAddr (m := 0) Tryd.underlying60 rfl (by kernel_rfl) rfl) trivial ?_
 refine .as (.ptr 500 3) rfl ?_
 refine .q rfl (op_load Tryd.underlying58 rfl rfl rfl rfl (by first | omega | (simp only [AV.len]; omega) | (simp only [AV.len]; omega) | assumption | (simp [AV.len]; done))) trivial ?_
 refine .q rfl (op_fieldAddr (m := 0) Tryd.underlying43 rfl (by kernel_rfl) rfl) trivial ?_
 refine .as (.ptr 1000 0) rfl ?_
 refine .q rfl (op_load Tryd.underlying9 rfl rfl rfl rfl (by first | omega | (simp only [AV.len]; omega) | (simp only [AV.len]; omega) | assumption | (simp [AV.len]; done))) trivial ?_
 refine .q rfl (op_fieldAddr (m := 0) Tryd.underlying43 rfl (by kernel_rfl) rfl) trivial ?_
 refine .as (.ptr 1000 1) rfl ?_
 refine .q rfl (op_load Tryd.underlying9 rfl rfl rfl rfl (by first | omega | (simp only [AV.len]; omega) | (simp only [AV.len]; omega) | assumption | (simp [AV.len]; done))) trivial ?_
 refine .q rfl (op_buildS (r := .agg _) Tryd.underlying77 rfl zero77 rel_zero77 rfl rfl rfl rfl) trivial ?_
 refine .w rfl (op_deleteY (i := 0) (c' := .mapc [] [] [] ck) keys1 Tryd.underlying58 rfl rfl rfl rfl rfl one_at rfl) trivial rfl rfl ?_
 refine .nil ?_
 show RetOk _ _ _ _ _ _ _
 exact ret0 rfl (.inr rfl) ⟨rfl, trivial⟩
end Go.Proofs.YtemifioopeeipaaDoor
namespace Go.Proofs.YtemifioopeeipaaDoor
open Go.RowKit
theorem op_index_strU8 {P : Program} {T : Nat → Option AV} {H : Hp} {nm : Nat} {wr : Bool} {d : Option Tmp} {ty t : TypeId} {ps : String} {af : Array Edge} {gd : Option (Nat × Bool)} {x y : Operand} {i : Nat} {s : List UInt8} {v : UInt8} (ht : P.underlying t = some .string) (hx : aev T x = some (.str s)) (hy : aev T y = some (.u8 v)) (hj : v.toNat = i) (hlt : i < s.length) :
    OpSem P T H ⟨d, .index t x y, ty, ps, af, gd⟩ nm wr (.u8 (s.getD i 0)) [] :=
  .quiet fun E a w h => by
    have h1 := (h x mem21 _ hx).str_inv
    have h2 := (h y mem22 _ hy).u8_inv
    refine ⟨.int .u8 ((s.getD i 0).toNat : Int), ?_, .u8 _⟩
    have hg : (⟨s.toArray⟩ : ByteArray)[i]? = some (s.getD i 0) := by
      have hsz : i < (⟨s.toArray⟩ : ByteArray).size := by simpa [ByteArray.size] using hlt
      rw [getElem?_pos (⟨s.toArray⟩ : ByteArray) i hsz]
      simp [List.getD_eq_getElem?_getD, hlt]
      rfl
    simp [execOp, h1, h2, Instr.index, asIntOf, run_underlying ht, hj, hg]
theorem infLease : Inf Tryd.prog 43 5 (.agg #[.string ⟨#[]⟩, .string ⟨#[]⟩, .int .i64 0, .int .i64 0, .int .i64 0]) := Inf.mk (b := 56) (by kernel_rfl) (by decide) rfl
theorem bn_at (bn : Nat) (j m : Nat) (h : [bn][j]? = some m) : j = 0 := by
  cases j with
  | zero => rfl
  | succ j => simp at h
theorem rel_nm (kv : Value) (h : [nmV][0]? = some kv) (E : Emb) : Rel E (.agg [.str [116], .str [97]]) kv := by
  injection h with h; subst h
  exact .agg _ _ _ rfl rfl (fun x hx => by simp at hx; rcases hx with rfl | rfl <;> rfl) (fun i x y hx hy => by
    match i, hx, hy with
    | 0, hx, hy => simp at hx hy; subst hx; subst hy; exact .str _
    | 1, hx, hy => simp at hx hy; subst hx; subst hy; exact .str _
    | n + 2, hx, _ => simp at hx)
theorem lt_one {bn ck : Nat} (h : bn < ck) : ∀ n ∈ [bn], n < ck := by intro n hn; simp at hn; omega
theorem rel_same {u : AV} (v : AV) (h : [u][0]? = some v) (E : Emb) (y : Value) (hr : Rel E v y) : Rel E u y := by injection h with h; subst h; exact hr
set_option maxRecDepth 100000 in
theorem len64_0  : Meets Tryd.prog 61 [.u64 0] [] (.i64 0) [] := by
 refine meets_of_ev (nt := 25) Tryd.func61 rfl rfl (Nat.le_of_ble_eq_true rfl) ?_
 refine .seq ?_
 refine .region ?_
 refine .q (op_assign rfl) trivial rfl ?_
 refine .nil ?_
 show Ev _ _ _ _ _
 refine .seq ?_
 refine .seq ?_
 refine .region ?_
 refine .q (op_move rfl) trivial rfl ?_
 refine .q (op_bin64 rfl rfl rfl) trivial rfl ?_
 refine .nil ?_
 show Ev _ _ _ _ _
 refine .cond_false rfl (rfl) ?_
 refine .skip ?_
 show Ev _ _ _ _ _
 refine .seq ?_
 refine .seq ?_
 refine .region ?_
 refine .q (op_move rfl) trivial rfl ?_
 refine .q (op_bin64 rfl rfl rfl) trivial rfl ?_
 refine .nil ?_
 show Ev _ _ _ _ _
 refine .cond_false rfl (rfl) ?_
 refine .skip ?_
 show Ev _ _ _ _ _
 refine .seq ?_
 refine .seq ?_
 refine .region ?_
 refine .q (op_move rfl) trivial rfl ?_
 refine .q (op_bin64 rfl rfl rfl) trivial rfl ?_
 refine .nil ?_
 show Ev _ _ _ _ _
 refine .cond_false rfl (rfl) ?_
 refine .skip ?_
 show Ev _ _ _ _ _
 refine .seq ?_
 refine .region ?_
 refine .q (op_move rfl) trivial rfl ?_
 refine .q (op_move rfl) trivial rfl ?_
 refine .q (op_conv Tryd.underlying114 Tryd.underlying5 rfl rfl) trivial rfl ?_
 refine .q (op_index_strU8 Tryd.underlying9 rfl rfl (i := 0) rfl (by decide)) trivial rfl ?_
 refine .q (op_conv Tryd.underlying5 Tryd.underlying3 rfl rfl) trivial rfl ?_
 refine .q (op_addI rfl rfl ⟨by first | omega | (simp only [AV.len]; omega) | (simp only [AV.len, List.length_set]; omega) | assumption | (simp [AV.len]; done), by first | omega | (simp only [AV.len]; omega) | (simp only [AV.len, List.length_set]; omega) | assumption | (simp [AV.len]; done)⟩) trivial rfl ?_
 refine .q (op_assign rfl) trivial rfl ?_
 refine .nil ?_
 show Ev _ _ _ _ _
 refine .ret ?_
 show RetOk _ _ _ _ _ _ _
 exact ret1v rfl (.inl rfl) rfl rfl trivial
set_option maxRecDepth 100000 in
theorem len_0  : Meets Tryd.prog 50 [.u64 0] [] (.i64 0) [] := by
 refine meets_of_ev (nt := 8) Tryd.func50 rfl rfl (Nat.le_of_ble_eq_true rfl) ?_
 refine .seq ?_
 refine .region ?_
 refine .q (op_assign rfl) trivial rfl ?_
 refine .nil ?_
 show Ev _ _ _ _ _
 refine .seq ?_
 refine .cond_false rfl (rfl) ?_
 refine .skip ?_
 show Ev _ _ _ _ _
 refine .seq ?_
 refine .region ?_
 refine .q (op_move rfl) trivial rfl ?_
 refine .q (op_call (U := []) [] [] (len64_0) Tryd.func61 (by kernel_rfl) rfl rfl rfl (⟨⟨_, rfl, rfl, rfl⟩, trivial⟩) (trivial) (trivial) (trivial) rfl) trivial rfl ?_
 refine .q (op_assign rfl) trivial rfl ?_
 refine .nil ?_
 show Ev _ _ _ _ _
 refine .ret ?_
 show RetOk _ _ _ _ _ _ _
 exact ret1v rfl (.inl rfl) rfl rfl trivial
set_option maxRecDepth 100000 in
theorem len64_1  : Meets Tryd.prog 61 [.u64 1] [] (.i64 1) [] := by
 refine meets_of_ev (nt := 25) Tryd.func61 rfl rfl (Nat.le_of_ble_eq_true rfl) ?_
 refine .seq ?_
 refine .region ?_
 refine .q (op_assign rfl) trivial rfl ?_
 refine .nil ?_
 show Ev _ _ _ _ _
 refine .seq ?_
 refine .seq ?_
 refine .region ?_
 refine .q (op_move rfl) trivial rfl ?_
 refine .q (op_bin64 rfl rfl rfl) trivial rfl ?_
 refine .nil ?_
 show Ev _ _ _ _ _
 refine .cond_false rfl (rfl) ?_
 refine .skip ?_
 show Ev _ _ _ _ _
 refine .seq ?_
 refine .seq ?_
 refine .region ?_
 refine .q (op_move rfl) trivial rfl ?_
 refine .q (op_bin64 rfl rfl rfl) trivial rfl ?_
 refine .nil ?_
 show Ev _ _ _ _ _
 refine .cond_false rfl (rfl) ?_
 refine .skip ?_
 show Ev _ _ _ _ _
 refine .seq ?_
 refine .seq ?_
 refine .region ?_
 refine .q (op_move rfl) trivial rfl ?_
 refine .q (op_bin64 rfl rfl rfl) trivial rfl ?_
 refine .nil ?_
 show Ev _ _ _ _ _
 refine .cond_false rfl (rfl) ?_
 refine .skip ?_
 show Ev _ _ _ _ _
 refine .seq ?_
 refine .region ?_
 refine .q (op_move rfl) trivial rfl ?_
 refine .q (op_move rfl) trivial rfl ?_
 refine .q (op_conv Tryd.underlying114 Tryd.underlying5 rfl rfl) trivial rfl ?_
 refine .q (op_index_strU8 Tryd.underlying9 rfl rfl (i := 1) rfl (by decide)) trivial rfl ?_
 refine .q (op_conv Tryd.underlying5 Tryd.underlying3 rfl rfl) trivial rfl ?_
 refine .q (op_addI rfl rfl ⟨by first | omega | (simp only [AV.len]; omega) | (simp only [AV.len, List.length_set]; omega) | assumption | (simp [AV.len]; done), by first | omega | (simp only [AV.len]; omega) | (simp only [AV.len, List.length_set]; omega) | assumption | (simp [AV.len]; done)⟩) trivial rfl ?_
 refine .q (op_assign rfl) trivial rfl ?_
 refine .nil ?_
 show Ev _ _ _ _ _
 refine .ret ?_
 show RetOk _ _ _ _ _ _ _
 exact ret1v rfl (.inl rfl) rfl rfl trivial
set_option maxRecDepth 100000 in
theorem len_1  : Meets Tryd.prog 50 [.u64 1] [] (.i64 1) [] := by
 refine meets_of_ev (nt := 8) Tryd.func50 rfl rfl (Nat.le_of_ble_eq_true rfl) ?_
 refine .seq ?_
 refine .region ?_
 refine .q (op_assign rfl) trivial rfl ?_
 refine .nil ?_
 show Ev _ _ _ _ _
 refine .seq ?_
 refine .cond_false rfl (rfl) ?_
 refine .skip ?_
 show Ev _ _ _ _ _
 refine .seq ?_
 refine .region ?_
 refine .q (op_move rfl) trivial rfl ?_
 refine .q (op_call (U := []) [] [] (len64_1) Tryd.func61 (by kernel_rfl) rfl rfl rfl (⟨⟨_, rfl, rfl, rfl⟩, trivial⟩) (trivial) (trivial) (trivial) rfl) trivial rfl ?_
 refine .q (op_assign rfl) trivial rfl ?_
 refine .nil ?_
 show Ev _ _ _ _ _
 refine .ret ?_
 show RetOk _ _ _ _ _ _ _
 exact ret1v rfl (.inl rfl) rfl rfl trivial
set_option maxRecDepth 100000 in
theorem ins_nil  : Meets Tryd.prog 52 [.nilsl, .i64 0, .i64 0, .val (.func (.func 43) #[] #[])] [] (.tup []) [] := by
 refine meets_of_ev (nt := 53) Tryd.func52 rfl rfl (Nat.le_of_ble_eq_true rfl) ?_
 refine .seq ?_
 refine .region ?_
 refine .q (op_move rfl) trivial rfl ?_
 refine .q (op_addI rfl rfl ⟨by omega, by omega⟩) trivial rfl ?_
 refine .q (op_assign rfl) trivial rfl ?_
 refine .nil ?_
 show Ev _ _ _ _ _
 refine .block ?_
 refine Ev.rounds 1 ?_
 show Ev _ _ _ _ _
 refine .seq ?_
 refine .seq ?_
 refine .region ?_
 refine .q (op_move rfl) trivial rfl ?_
 refine .q (op_move rfl) trivial rfl ?_
 refine .q (op_cmpI rfl rfl rfl) trivial rfl ?_
 refine .nil ?_
 show Ev _ _ _ _ _
 refine .cond_false rfl (rfl) ?_
 refine .exit ?_
 show RetOk _ _ _ _ _ _ _
 exact ret0 rfl (.inr rfl) trivial
set_option maxRecDepth 100000 in
theorem pdq_nil (k : Int) : Meets Tryd.prog 49 [.nilsl, .i64 0, .i64 0, .i64 k, .val (.func (.func 43) #[] #[])] [] (.tup []) [] := by
 refine meets_of_ev (nt := 148) Tryd.func49 rfl rfl (Nat.le_of_ble_eq_true rfl) ?_
 refine .seq ?_
 refine .region ?_
 refine .q (op_assign rfl) trivial rfl ?_
 refine .nil ?_
 show Ev _ _ _ _ _
 refine .seq ?_
 refine .region ?_
 refine .q (op_assign rfl) trivial rfl ?_
 refine .nil ?_
 show Ev _ _ _ _ _
 refine .block ?_
 refine Ev.rounds 1 ?_
 show Ev _ _ _ _ _
 refine .block ?_
 refine .seq ?_
 refine .region ?_
 refine .q (op_move rfl) trivial rfl ?_
 refine .q (op_move rfl) trivial rfl ?_
 refine .q (op_subI rfl rfl ⟨by omega, by omega⟩) trivial rfl ?_
 refine .q (op_assign rfl) trivial rfl ?_
 refine .nil ?_
 show Ev _ _ _ _ _
 refine .seq ?_
 refine .seq ?_
 refine .region ?_
 refine .q (op_move rfl) trivial rfl ?_
 refine .q (op_cmpI rfl rfl rfl) trivial rfl ?_
 refine .nil ?_
 show Ev _ _ _ _ _
 refine .cond_true rfl (rfl) ?_
 refine .seq ?_
 refine .region ?_
 refine .q (op_move rfl) trivial rfl ?_
 refine .q (op_move rfl) trivial rfl ?_
 refine .q (op_move rfl) trivial rfl ?_
 refine .q (op_move rfl) trivial rfl ?_
 refine .q (op_call (U := []) [] [] (ins_nil) Tryd.func52 (by kernel_rfl) rfl rfl rfl (⟨⟨_, rfl, rfl, rfl⟩, ⟨_, rfl, rfl, rfl⟩, ⟨_, rfl, rfl, rfl⟩, ⟨_, rfl, rfl, rfl⟩, trivial⟩) (trivial) (trivial) (trivial) rfl) trivial rfl ?_
 refine .nil ?_
 show Ev _ _ _ _ _
 refine .ret ?_
 show RetOk _ _ _ _ _ _ _
 exact ret0 rfl (.inl rfl) trivial
set_option maxRecDepth 100000 in
theorem sort_nil  : Meets Tryd.prog 42 [.nilsl, .val (.func (.func 43) #[] #[])] [] (.tup []) [] := by
 refine meets_of_ev (nt := 14) Tryd.func42 rfl rfl (Nat.le_of_ble_eq_true rfl) ?_
 refine .seq ?_
 refine .region ?_
 refine .q (op_move rfl) trivial rfl ?_
 refine .q (op_len_nil Tryd.underlying37 rfl) trivial rfl ?_
 refine .q (op_assign rfl) trivial rfl ?_
 refine .nil ?_
 show Ev _ _ _ _ _
 refine .region ?_
 refine .q (op_move rfl) trivial rfl ?_
 refine .q (op_move rfl) trivial rfl ?_
 refine .q (op_move rfl) trivial rfl ?_
 refine .q (op_conv Tryd.underlying3 Tryd.underlying91 rfl rfl) trivial rfl ?_
 refine .q (op_call (U := []) [] [] (len_0) Tryd.func50 (by kernel_rfl) rfl rfl rfl (⟨⟨_, rfl, rfl, rfl⟩, trivial⟩) (trivial) (trivial) (trivial) rfl) trivial rfl ?_
 refine .q (op_move rfl) trivial rfl ?_
 refine .q (op_call (U := []) [] [] (pdq_nil _) Tryd.func49 (by kernel_rfl) rfl rfl rfl (⟨⟨_, rfl, rfl, rfl⟩, ⟨_, rfl, rfl, rfl⟩, ⟨_, rfl, rfl, rfl⟩, ⟨_, rfl, rfl, rfl⟩, ⟨_, rfl, rfl, rfl⟩, trivial⟩) (trivial) (trivial) (trivial) rfl) trivial rfl ?_
 refine .nil ?_
 show RetOk _ _ _ _ _ _ _
 exact ret0 rfl (.inr rfl) trivial
set_option maxRecDepth 100000 in
theorem ins_one  : Meets Tryd.prog 52 [.sl 500 0 1 5, .i64 0, .i64 1, .val (.func (.func 43) #[] #[])] [] (.tup []) [] := by
 refine meets_of_ev (nt := 53) Tryd.func52 rfl rfl (Nat.le_of_ble_eq_true rfl) ?_
 refine .seq ?_
 refine .region ?_
 refine .q (op_move rfl) trivial rfl ?_
 refine .q (op_addI rfl rfl ⟨by omega, by omega⟩) trivial rfl ?_
 refine .q (op_assign rfl) trivial rfl ?_
 refine .nil ?_
 show Ev _ _ _ _ _
 refine .block ?_
 refine Ev.rounds 1 ?_
 show Ev _ _ _ _ _
 refine .seq ?_
 refine .seq ?_
 refine .region ?_
 refine .q (op_move rfl) trivial rfl ?_
 refine .q (op_move rfl) trivial rfl ?_
 refine .q (op_cmpI rfl rfl rfl) trivial rfl ?_
 refine .nil ?_
 show Ev _ _ _ _ _
 refine .cond_false rfl (rfl) ?_
 refine .exit ?_
 show RetOk _ _ _ _ _ _ _
 exact ret0 rfl (.inr rfl) trivial
set_option maxRecDepth 100000 in
theorem pdq_one (k : Int) : Meets Tryd.prog 49 [.sl 500 0 1 5, .i64 0, .i64 1, .i64 k, .val (.func (.func 43) #[] #[])] [] (.tup []) [] := by
 refine meets_of_ev (nt := 148) Tryd.func49 rfl rfl (Nat.le_of_ble_eq_true rfl) ?_
 refine .seq ?_
 refine .region ?_
 refine .q (op_assign rfl) trivial rfl ?_
 refine .nil ?_
 show Ev _ _ _ _ _
 refine .seq ?_
 refine .region ?_
 refine .q (op_assign rfl) trivial rfl ?_
 refine .nil ?_
 show Ev _ _ _ _ _
 refine .block ?_
 refine Ev.rounds 1 ?_
 show Ev _ _ _ _ _
 refine .block ?_
 refine .seq ?_
 refine .region ?_
 refine .q (op_move rfl) trivial rfl ?_
 refine .q (op_move rfl) trivial rfl ?_
 refine .q (op_subI rfl rfl ⟨by omega, by omega⟩) trivial rfl ?_
 refine .q (op_assign rfl) trivial rfl ?_
 refine .nil ?_
 show Ev _ _ _ _ _
 refine .seq ?_
 refine .seq ?_
 refine .region ?_
 refine .q (op_move rfl) trivial rfl ?_
 refine .q (op_cmpI rfl rfl rfl) trivial rfl ?_
 refine .nil ?_
 show Ev _ _ _ _ _
 refine .cond_true rfl (rfl) ?_
 refine .seq ?_
 refine .region ?_
 refine .q (op_move rfl) trivial rfl ?_
 refine .q (op_move rfl) trivial rfl ?_
 refine .q (op_move rfl) trivial rfl ?_
 refine .q (op_move rfl) trivial rfl ?_
 refine .q (op_call (U := []) [(500, 500)] [] (ins_one) Tryd.func52 (by kernel_rfl) rfl rfl rfl (⟨⟨_, rfl, rfl, rfl⟩, ⟨_, rfl, rfl, rfl⟩, ⟨_, rfl, rfl, rfl⟩, ⟨_, rfl, rfl, rfl⟩, trivial⟩) (trivial) (trivial) (trivial) rfl) trivial rfl ?_
 refine .nil ?_
 show Ev _ _ _ _ _
 refine .ret ?_
 show RetOk _ _ _ _ _ _ _
 exact ret0 rfl (.inl rfl) trivial
set_option maxRecDepth 100000 in
theorem sort_one  : Meets Tryd.prog 42 [.sl 500 0 1 5, .val (.func (.func 43) #[] #[])] [] (.tup []) [] := by
 refine meets_of_ev (nt := 14) Tryd.func42 rfl rfl (Nat.le_of_ble_eq_true rfl) ?_
 refine .seq ?_
 refine .region ?_
 refine .q (op_move rfl) trivial rfl ?_
 refine .q (op_len_sl Tryd.underlying37 rfl) trivial rfl ?_
 refine .q (op_assign rfl) trivial rfl ?_
 refine .nil ?_
 show Ev _ _ _ _ _
 refine .region ?_
 refine .q (op_move rfl) trivial rfl ?_
 refine .q (op_move rfl) trivial rfl ?_
 refine .q (op_move rfl) trivial rfl ?_
 refine .q (op_conv Tryd.underlying3 Tryd.underlying91 rfl rfl) trivial rfl ?_
 refine .q (op_call (U := []) [] [] (len_1) Tryd.func50 (by kernel_rfl) rfl rfl rfl (⟨⟨_, rfl, rfl, rfl⟩, trivial⟩) (trivial) (trivial) (trivial) rfl) trivial rfl ?_
 refine .q (op_move rfl) trivial rfl ?_
 refine .q (op_call (U := []) [(500, 500)] [] (pdq_one _) Tryd.func49 (by kernel_rfl) rfl rfl rfl (⟨⟨_, rfl, rfl, rfl⟩, ⟨_, rfl, rfl, rfl⟩, ⟨_, rfl, rfl, rfl⟩, ⟨_, rfl, rfl, rfl⟩, ⟨_, rfl, rfl, rfl⟩, trivial⟩) (trivial) (trivial) (trivial) rfl) trivial rfl ?_
 refine .nil ?_
 show RetOk _ _ _ _ _ _ _
 exact ret0 rfl (.inr rfl) trivial
set_option maxRecDepth 100000 in
theorem beatc_ev (o e l w : Int) : Meets Tryd.prog 37 [.agg [.str [116], .str [97], .i64 o, .i64 e, .i64 l], .ptr 500 0] [(500, some ⟨.agg [.i64 w], 3, false⟩)] (.bool (o == w)) [] := by
 refine meets_of_ev (nt := 8) Tryd.func37 rfl rfl (Nat.le_of_ble_eq_true rfl) ?_
 refine .seq ?_
 refine .region ?_
 refine .a (op_boxRow rfl rfl) trivial rfl ?_
 refine .q (op_assign rfl) trivial rfl ?_
 refine .nil ?_
 show Ev _ _ _ _ _
 refine .seq ?_
 refine .region ?_
 refine .q (op_fieldAddr (m := 0) Tryd.underlying43 rfl (by kernel_rfl) rfl) trivial rfl ?_
 refine .as (.ptr 1000 2) rfl ?_
 refine .q (op_load Tryd.underlying3 rfl rfl rfl rfl (by first | omega | (simp only [AV.len]; omega) | (simp only [AV.len]; omega) | assumption | (simp [AV.len]; done))) trivial rfl ?_
 refine .q (op_load Tryd.underlying3 rfl rfl rfl rfl (by first | omega | (simp only [AV.len]; omega) | (simp only [AV.len]; omega) | assumption | (simp [AV.len]; done))) trivial rfl ?_
 refine .q (op_cmpI rfl rfl rfl) trivial rfl ?_
 refine .q (op_assign rfl) trivial rfl ?_
 refine .nil ?_
 show Ev _ _ _ _ _
 refine .ret ?_
 show RetOk _ _ _ _ _ _ _
 exact ret1v rfl (.inl rfl) rfl (rfl) trivial
set_option maxRecDepth 100000 in
theorem allc_ev (o e l : Int) : Meets Tryd.prog 28 [.agg [.str [116], .str [97], .i64 o, .i64 e, .i64 l]] [] (.bool true) [] := by
 refine meets_of_ev (nt := 3) Tryd.func28 rfl rfl (Nat.le_of_ble_eq_true rfl) ?_
 refine .seq ?_
 refine .region ?_
 refine .a (op_boxRow rfl rfl) trivial rfl ?_
 refine .q (op_assign rfl) trivial rfl ?_
 refine .nil ?_
 show Ev _ _ _ _ _
 refine .seq ?_
 refine .region ?_
 refine .q (op_assign rfl) trivial rfl ?_
 refine .nil ?_
 show Ev _ _ _ _ _
 refine .ret ?_
 show RetOk _ _ _ _ _ _ _
 exact ret1v rfl (.inl rfl) rfl (rfl) trivial
theorem tick_in (n : Int) : 0 ≤ tickV n ∧ tickV n ≤ 1099511627776 := by unfold tickV; omega
set_option maxRecDepth 100000 in
theorem expc_ev (a b c ep o e l now : Int) (hl : 0 ≤ l ∧ l ≤ 1099511627776) : Meets Tryd.prog 35 [.agg [.str [116], .str [97], .i64 o, .i64 e, .i64 l], .ptr 500 0, .ptr 501 0] [(500, some ⟨.agg [.i64 now], 3, false⟩), (501, some ⟨.agg [.ptr 502 0], 26, false⟩), (502, some ⟨.agg [.i64 a, .i64 b, .i64 c, .mp 503, .i64 ep], 60, false⟩)] (.bool (decide (c ≤ tickV now - l))) [] := by
 refine meets_of_ev (nt := 16) Tryd.func35 rfl rfl (Nat.le_of_ble_eq_true rfl) ?_
 refine .seq ?_
 refine .region ?_
 refine .a (op_boxRow rfl rfl) trivial rfl ?_
 refine .q (op_assign rfl) trivial rfl ?_
 refine .nil ?_
 show Ev _ _ _ _ _
 refine .seq ?_
 refine .drawn [[], [0], [], [2], [0, 1, 2, 3], [], [5], [5, 6], [5, 6, 7], [5, 6, 7, 8], [0, 1, 2, 3, 4, 5, 6, 7, 8, 9], [0, 1, 2, 3, 4, 5, 6, 7, 8, 9, 10]] [0, 1, 3, 5, 9] [] (by kernel_rfl) (by kernel_rfl) rfl ?_
 show DK _ [0, 1, 2, 3, 4, 5, 6, 7, 8, 9, 10, 11] _ _ _
 refine .q rfl (op_load Tryd.underlying3 rfl rfl rfl rfl (by first | omega | (simp only [AV.len]; omega) | (simp only [AV.len]; omega) | assumption | (simp [AV.len]; done))) trivial ?_
 refine .q rfl (op_call (U := []) [] [] (tick_ev now) Tryd.func32 (by kernel_rfl) rfl rfl rfl (⟨⟨_, rfl, rfl, rfl⟩, trivial⟩) (trivial) (trivial) (trivial) rfl) trivial ?_
 refine .q rfl (op_fieldAddr (m := 0) Tryd.underlying43 rfl (by kernel_rfl) rfl) trivial ?_
 refine .as (.ptr 1000 4) rfl ?_
 refine .q rfl (op_load Tryd.underlying3 rfl rfl rfl rfl (by first | omega | (simp only [AV.len]; omega) | (simp only [AV.len]; omega) | assumption | (simp [AV.len]; done))) trivial ?_
 refine .q rfl (op_subI rfl rfl ⟨by have := tick_in now; omega, by have := tick_in now; omega⟩) trivial ?_
 refine .q rfl (op_load Tryd.underlying26 rfl rfl rfl rfl (by first | omega | (simp only [AV.len]; omega) | (simp only [AV.len]; omega) | assumption | (simp [AV.len]; done))) trivial ?_
 refine .q rfl (op_nilCheck rfl) trivial ?_
 refine .q rfl (op_fieldAddr (m := 2) Tryd.underlying60 rfl (by kernel_rfl) rfl) trivial ?_
 refine .as (.ptr 502 0) rfl ?_
 refine .q rfl (op_fieldAddr (m := 0) Tryd.underlying23 rfl (by kernel_rfl) rfl) trivial ?_
 refine .as (.ptr 502 2) rfl ?_
 refine .q rfl (op_load Tryd.underlying3 rfl rfl rfl rfl (by first | omega | (simp only [AV.len]; omega) | (simp only [AV.len]; omega) | assumption | (simp [AV.len]; done))) trivial ?_
 refine .q rfl (op_cmpI rfl rfl rfl) trivial ?_
 refine .q rfl (op_assign rfl) trivial ?_
 refine .nil ?_
 show Ev _ _ _ _ _
 refine .ret ?_
 show RetOk _ _ _ _ _ _ _
 exact ret1v rfl (.inl rfl) rfl (rfl) trivial
end Go.Proofs.YtemifioopeeipaaDoor
