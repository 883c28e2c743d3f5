/-
  Texts of this claim.
-/
import Derived.Test.YtdmlpblaelfdmaaGreatDoorGS4P
import Derived.Test.YtdmlpblaelfdmaaGreatDoorGYP
namespace Go.Proofs.YtdmlpblaelfdmaaGreatDoor
open Go.RowKit
theorem length_bigB (s : List UInt8) : (bigB s).length = 4 + (unsB (shortB s)).length := length_textB _
theorem bigB_le (s : List UInt8) : (bigB s).length ≤ 5 + s.length := by
  have h1 := length_shortB s
  have h2 := length_unsB (shortB s)
  rw [length_bigB]; omega
/-- The key material behind so many rounds. -/
def keyN (st t1 : List UInt8) : Nat → List UInt8
  | 0 => t1
  | j + 1 => keyN st t1 j ++ sha256 (st ++ keyN st t1 j)
/-- What the last round made. -/
def lastN (st t1 : List UInt8) : Nat → List UInt8
  | 0 => t1
  | j + 1 => sha256 (st ++ keyN st t1 j)
theorem length_keyN (st t1 : List UInt8) (h : t1.length = 32) (j : Nat) : (keyN st t1 j).length = 32 * (j + 1) := by
  induction j with
  | zero => exact h
  | succ j ih => rw [keyN, List.length_append, ih, length_sha256]; omega
theorem length_lastN (st t1 : List UInt8) (h : t1.length = 32) (j : Nat) : (lastN st t1 j).length = 32 := by
  cases j with
  | zero => exact h
  | succ j => exact length_sha256 _
theorem key_pre (st t1 : List UInt8) (h : t1.length = 32) (m j : Nat) (hm : m ≤ 32 * (j + 1)) : ∀ k, j ≤ k → (keyN st t1 k).take m = (keyN st t1 j).take m := by
  intro k
  induction k with
  | zero => intro hk; rw [show j = 0 by omega]
  | succ k ih =>
    intro hk
    by_cases hq : j = k + 1
    · rw [hq]
    · rw [keyN, List.take_append_of_le_length (by rw [length_keyN _ _ h]; omega)]
      exact ih (by omega)
/-- Keys as the document derives them. -/
def derP (sec hash sid : List UInt8) (c : UInt8) (m : Nat) : List UInt8 := (keyN (bigB sec ++ hash) (sha256 (bigB sec ++ hash ++ [c] ++ sid)) 254).take m
theorem length_derP (sec hash sid : List UInt8) (c : UInt8) (m : Nat) (hm : m ≤ 8160) : (derP sec hash sid c m).length = m := by
  unfold derP
  rw [List.length_take, length_keyN _ _ (length_sha256 _)]; omega
theorem flat3 (a b c : List UInt8) : [a, b, c].flatten = a ++ b ++ c := by simp
theorem flat2 (a b : List UInt8) : [a, b].flatten = a ++ b := by simp
theorem tot3 (a b c : List UInt8) (h : a.length + b.length + c.length < 1000000) : totN [a, b, c] [a, b, c].length < 2 ^ 60 := by
  show 0 + a.length + b.length + c.length < 1152921504606846976
  omega
theorem tot2 (a b : List UInt8) (h : a.length + b.length < 1000000) : totN [a, b] [a, b].length < 2 ^ 60 := by
  show 0 + a.length + b.length < 1152921504606846976
  omega
set_option maxRecDepth 100000 in
theorem number_ev (sec : List UInt8) (hs : sec.length = 32) : Meets Tryz.prog 50 [.aggB sec] [] (.str (bigB sec)) [] := by
 have hb := bigB_le sec
 have hl := length_bigB sec
 refine meets_of_ev (nt := 8) Tryz.func50 rfl rfl (Nat.le_of_ble_eq_true rfl) ?_
 refine .seq ?_
 refine .region ?_
 refine .a (op_boxRow rfl rfl) trivial rfl ?_
 refine .q (op_assign rfl) trivial rfl ?_
 refine .nil ?_
 show Ev _ _ _ _ _
 refine .seq ?_
 refine .region ?_
 refine .a (op_allocRow zero82 rel_zero82 rfl) trivial rfl ?_
 refine .nil ?_
 show Ev _ _ _ _ _
 refine .seq ?_
 refine .region ?_
 refine .q (ap_slice_arr_hi Tryz.underlying24 inf5.sz rfl rfl (by first | exact hs | (show sec.length = 32; exact hs) | omega | decide | (simp only [AV.len]; omega)) (by decide) rfl (by first | exact hs | (show sec.length = 32; exact hs) | omega | decide | (simp only [AV.len]; omega))) trivial rfl ?_
 refine .as (.sl 1000 0 sec.length 1) (slice_as2 rfl (by omega)) ?_
 refine .q (op_bytes_str Tryz.underlying33 Tryz.underlying5 Tryz.underlying9 rfl rfl rfl (by first | omega | (simp only [AV.len]; omega))) trivial rfl ?_
 refine .as (.str sec) (congrArg AV.str (by simp)) ?_
 refine .a (op_call (U := [(1008, some ⟨.agg [.ptr 1008 0, .sl 1016 0 ((4 + (unsB (shortB sec)).length)) 1], 82, true⟩), (1016, some ⟨.aggB (bigB sec), 5, true⟩)]) [(500, 1008)] [(1016, 1000)] (big0_ev sec (by omega)) Tryz.func86 (by kernel_rfl) rfl rfl rfl (⟨⟨_, rfl, rfl, rfl⟩, ⟨_, rfl, rfl, rfl⟩, trivial⟩) (⟨⟨_, _, rfl, rfl, rfl, rfl, id, rfl⟩, trivial⟩) (⟨⟨500, _, rfl, rfl, rfl, rfl, .inr ⟨rfl, _, rfl, rfl⟩⟩, ⟨1000, _, rfl, rfl, rfl, rfl, .inl rfl⟩, trivial⟩) (⟨(fun _ => ⟨1008, _, rfl, rfl⟩), trivial⟩) rfl) trivial rfl ?_
 refine .a (op_call (U := [(1016, some ⟨.aggB (bigB sec), (frz + 5), false⟩)]) [(500, 1008), (501, 1016)] [] (bytes2_ev (bigB sec) (4 + (unsB (shortB sec)).length) (length_bigB sec).symm (by omega) (by omega)) Tryz.func37 (by kernel_rfl) rfl rfl rfl (⟨⟨_, rfl, rfl, rfl⟩, trivial⟩) (⟨⟨_, _, rfl, rfl, rfl, rfl, (fun h => by cases h), rfl⟩, ⟨_, _, rfl, rfl, rfl, rfl, id, rfl⟩, trivial⟩) (⟨⟨501, _, rfl, rfl, rfl, rfl, .inr ⟨rfl, _, rfl, rfl⟩⟩, trivial⟩) (⟨(fun h => by cases h), (fun _ => ⟨1016, _, rfl, rfl⟩), trivial⟩) rfl) trivial rfl ?_
 refine .q (op_assign rfl) trivial rfl ?_
 refine .nil ?_
 show Ev _ _ _ _ _
 refine .ret ?_
 show RetOk _ _ _ _ _ _ _
 exact ret1v rfl (.inl rfl) rfl rfl trivial
set_option maxHeartbeats 1000000 in
set_option maxRecDepth 100000 in
theorem derive_ev (sec hash sid : List UInt8) (c : UInt8) (n : Int) (m ek : Nat) (hs : sec.length = 32) (hh : hash.length = 32) (hi : sid.length = 32) (hm : ((m : Nat) : Int) = min (max n 0) 8160) : Meets Tryz.prog 28 [.aggB sec, .aggB hash, .aggB sid, .u8 c, .i64 n] [(21, some ⟨.agg32 K256, ek, false⟩)] (.str (derP sec hash sid c m)) [] := by
 have hb := bigB_le sec
 obtain ⟨st, hst⟩ : ∃ st, (bigB sec ++ hash) = st := ⟨_, rfl⟩
 obtain ⟨t1, ht1⟩ : ∃ t1, sha256 (st ++ [c] ++ sid) = t1 := ⟨_, rfl⟩
 have h1l : t1.length = 32 := by rw [← ht1]; exact length_sha256 _
 have hsl : st.length ≤ 100 := by rw [← hst, List.length_append]; omega
 have hm8 : m ≤ 8160 := by omega
 refine meets_of_ev (nt := 47) Tryz.func28 rfl rfl (Nat.le_of_ble_eq_true rfl) ?_
 refine .seq ?_
 refine .region ?_
 refine .a (op_boxRow rfl rfl) trivial rfl ?_
 refine .a (op_boxRow rfl rfl) trivial rfl ?_
 refine .a (op_boxRow rfl rfl) trivial rfl ?_
 refine .q (op_assign rfl) trivial rfl ?_
 refine .nil ?_
 show Ev _ _ _ _ _
 refine .seq ?_
 refine .region ?_
 refine .q (op_move rfl) trivial rfl ?_
 refine .q (op_maxI rfl rfl) trivial rfl ?_
 refine .as (.i64 (max n 0)) rfl ?_
 refine .q (op_minI rfl rfl) trivial rfl ?_
 refine .as (.i64 ((m : Nat) : Int)) (congrArg AV.i64 (by first | exact hm.symm | omega)) ?_
 refine .q (op_assign rfl) trivial rfl ?_
 refine .nil ?_
 show Ev _ _ _ _ _
 refine .seq ?_
 refine .drawn [[], [0], [], [2], [0, 1, 2, 3], [0, 1, 2, 3, 4]] [0, 1, 2, 3] [] (by kernel_rfl) (by kernel_rfl) rfl ?_
 show DK _ [0, 1, 2, 3, 4, 5] _ _ _
 refine .q rfl (op_loadRow Tryz.underlying24 rfl sz24 rfl rfl rfl (by first | exact hs | (show sec.length = 32; exact hs) | omega | decide | (simp only [AV.len]; omega))) trivial ?_
 refine .q rfl (op_call (U := []) [] [] (number_ev sec hs) Tryz.func50 (by kernel_rfl) rfl rfl rfl (⟨⟨_, rfl, rfl, rfl⟩, trivial⟩) (trivial) (trivial) (trivial) rfl) trivial ?_
 refine .q rfl (ap_slice_arr_hi Tryz.underlying24 inf5.sz rfl rfl (by first | exact hh | (show hash.length = 32; exact hh) | omega | decide | (simp only [AV.len]; omega)) (by decide) rfl (by first | exact hh | (show hash.length = 32; exact hh) | omega | decide | (simp only [AV.len]; omega))) trivial ?_
 refine .as (.sl 1008 0 hash.length 1) (slice_as2 rfl (by omega)) ?_
 refine .q rfl (op_bytes_str Tryz.underlying33 Tryz.underlying5 Tryz.underlying9 rfl rfl rfl (by first | omega | (simp only [AV.len]; omega) | (simp only [AV.len, List.length_set]; omega) | assumption | (simp [AV.len]; done))) trivial ?_
 refine .as (.str hash) (congrArg AV.str (by simp)) ?_
 refine .q rfl (op_addS rfl rfl (by first | omega | (simp only [List.length_append]; omega))) trivial ?_
 refine .as (.str st) (congrArg AV.str hst) ?_
 refine .q rfl (op_assign rfl) trivial ?_
 refine .nil ?_
 show Ev _ _ _ _ _
 refine .seq ?_
 refine .drawn [[], [], [1], [1, 2], [], [4], [0, 1, 2, 3, 4, 5], [0, 1, 2, 3, 4, 5, 6], [], [0, 1, 2, 3, 4, 5, 6, 7, 8]] [2, 3, 4, 5, 6, 7, 8, 9] [9] (by kernel_rfl) (by kernel_rfl) rfl ?_
 show DK _ [0, 1, 2, 3, 4, 5, 6, 7, 8, 9] _ _ _
 refine .q rfl (op_move rfl) trivial ?_
 refine .q rfl (op_move rfl) trivial ?_
 refine .a rfl (ap_build (us := [.u8 c]) (c := .aggB [c]) Tryz.underlying33 inf5 rfl (by decide) (by decide) ⟨rfl, rfl, rfl, trivial⟩ rfl) trivial rfl rfl ?_
 refine .q rfl (op_bytes_str (k := ⟨.aggB [c], 5, true⟩) (l := [c]) Tryz.underlying33 Tryz.underlying5 Tryz.underlying9 rfl (by kernel_rfl) rfl (show 0 + 1 ≤ 1 by decide)) trivial ?_
 refine .as (.str [c]) rfl ?_
 refine .q rfl (ap_slice_arr_hi Tryz.underlying24 inf5.sz rfl rfl (by first | exact hi | (show sid.length = 32; exact hi) | omega | decide | (simp only [AV.len]; omega)) (by decide) rfl (by first | exact hi | (show sid.length = 32; exact hi) | omega | decide | (simp only [AV.len]; omega))) trivial ?_
 refine .as (.sl 1016 0 sid.length 1) (slice_as2 rfl (by omega)) ?_
 refine .q rfl (op_bytes_str Tryz.underlying33 Tryz.underlying5 Tryz.underlying9 rfl rfl rfl (by first | omega | (simp only [AV.len]; omega) | (simp only [AV.len, List.length_set]; omega) | assumption | (simp [AV.len]; done))) trivial ?_
 refine .as (.str sid) (congrArg AV.str (by simp)) ?_
 refine .a rfl (ap_build (us := [_, _, _]) (c := .aggS [_, _, _]) Tryz.underlying54 inf9 rfl (by decide) (by decide) ⟨rfl, rfl, rfl, rfl, rfl, rfl, rfl, rfl, rfl, trivial⟩ rfl) trivial rfl rfl ?_
 refine .q rfl (op_call (U := []) [(500, 1120)] [] (sum256_ev [st, [c], sid] 9 ek (tot3 _ _ _ (by simp only [List.length_singleton]; omega)) (by simp)) Tryz.func49 (by kernel_rfl) rfl rfl rfl (⟨⟨_, rfl, rfl, rfl⟩, trivial⟩) (⟨⟨_, ⟨.aggS [st, [c], sid], 9, true⟩, rfl, by kernel_rfl, rfl, rfl, (fun h => by cases h), rfl⟩, ⟨_, _, rfl, rfl, rfl, rfl, (fun h => by cases h), rfl⟩, trivial⟩) (trivial) (⟨(fun h => by cases h), (fun h => by cases h), trivial⟩) rfl) trivial ?_
 refine .as (.aggB t1) (congrArg AV.aggB (by rw [flat3]; exact ht1)) ?_
 refine .a rfl (op_allocRow zero24 rel_zero24 rfl) trivial rfl rfl ?_
 refine .w rfl (op_storeRow sz24 rfl rfl rfl rfl rfl (by first | rfl | exact h1l | exact List.length_replicate) (by first | rfl | exact h1l | exact List.length_replicate)) trivial rfl rfl ?_
 refine .nil ?_
 show Ev _ _ _ _ _
 refine .seq ?_
 refine .region ?_
 refine .q (ap_slice_arr_hi Tryz.underlying24 inf5.sz rfl rfl (by first | decide | (show 0 + 32 * 1 ≤ t1.length; omega) | omega) (by decide) rfl (by first | decide | (show 0 + 32 * 1 ≤ t1.length; omega) | omega)) trivial rfl ?_
 refine .as (.sl 1136 0 t1.length 1) (slice_as2 rfl (by omega)) ?_
 refine .q (op_bytes_str Tryz.underlying33 Tryz.underlying5 Tryz.underlying9 rfl rfl rfl (by first | omega | (simp only [AV.len]; omega) | (simp only [AV.len, List.length_set]; omega) | assumption | (simp [AV.len]; done))) trivial rfl ?_
 refine .as (.str t1) (congrArg AV.str (by simp)) ?_
 refine .q (op_assign rfl) trivial rfl ?_
 refine .nil ?_
 show Ev _ _ _ _ _
 refine .seq ?_
 refine .block ?_
 refine Ev.loop (ι := { j : Nat // j ≤ 254 }) (fun q => ⟨[(4, .i64 ((m : Nat) : Int)), (11, .str st), (12, .ptr 1136 0), (13, .str (keyN st t1 q.1))], [(1136, some ⟨.aggB (lastN st t1 q.1), 24, true⟩), (21, some ⟨.agg32 K256, ek, false⟩)], 1152⟩) (fun q => 254 - q.1) ⟨0, Nat.zero_le _⟩ (StLe.mk [(1136, 1136)] rfl rfl ⟨⟨_, rfl, by first | rfl | (simp only [AV.ren]; rfl), rfl⟩, ⟨_, rfl, by first | rfl | (simp only [AV.ren]; rfl), rfl⟩, ⟨_, rfl, by first | rfl | (simp only [AV.ren]; rfl), rfl⟩, ⟨_, rfl, by first | rfl | (simp only [AV.ren]; rfl), rfl⟩, trivial⟩ ⟨⟨_, _, rfl, rfl, rfl, rfl, id, rfl⟩, ⟨_, _, rfl, rfl, rfl, rfl, id, rfl⟩, trivial⟩) ?_
 rintro ⟨j, hj⟩
 try dsimp only
 have hkl := length_keyN st t1 h1l j
 have hll := length_lastN st t1 h1l j
 refine .seq ?_
 refine .seq ?_
 refine .region ?_
 refine .q (op_move rfl) trivial rfl ?_
 refine .q (op_len_str Tryz.underlying9 rfl) trivial rfl ?_
 refine .q (op_move rfl) trivial rfl ?_
 refine .q (op_cmpI rfl rfl rfl) trivial rfl ?_
 refine .nil ?_
 show Ev _ _ _ _ _
 refine .cond rfl (fun hc35 => ?_) (fun hc35 => ?_)
 ·simp only [decide_eq_true_eq] at hc35
  refine .skip ?_
  show Ev _ _ _ _ _
  refine .block ?_
  refine .seq ?_
  refine .region ?_
  refine .q (op_move rfl) trivial rfl ?_
  refine .q (op_move rfl) trivial rfl ?_
  refine .a (ap_build (us := [_, _]) (c := .aggS [_, _]) Tryz.underlying54 inf9 rfl (by decide) (by decide) ⟨rfl, rfl, rfl, rfl, rfl, rfl, trivial⟩ rfl) trivial rfl ?_
  refine .q (op_call (U := []) [(500, 1152)] [] (sum256_ev [st, keyN st t1 j] 9 ek (tot2 _ _ (by omega)) (by simp)) Tryz.func49 (by kernel_rfl) rfl rfl rfl (⟨⟨_, rfl, rfl, rfl⟩, trivial⟩) (⟨⟨_, _, rfl, rfl, rfl, rfl, (fun h => by cases h), rfl⟩, ⟨_, _, rfl, rfl, rfl, rfl, (fun h => by cases h), rfl⟩, trivial⟩) (trivial) (⟨(fun h => by cases h), (fun h => by cases h), trivial⟩) rfl) trivial rfl ?_
  refine .as (.aggB (lastN st t1 (j + 1))) (congrArg AV.aggB (by rw [flat2]; rfl)) ?_
  refine .w (op_storeRow sz24 rfl rfl rfl rfl rfl (by first | exact length_sha256 _ | exact hll | (show _ = 32; first | exact length_sha256 _ | exact hll)) (by first | exact length_sha256 _ | exact hll | (show _ = 32; first | exact length_sha256 _ | exact hll))) trivial rfl ?_
  refine .nil ?_
  show Ev _ _ _ _ _
  refine .region ?_
  refine .q (op_move rfl) trivial rfl ?_
  refine .q (ap_slice_arr_hi Tryz.underlying24 inf5.sz rfl rfl (by have hq : (lastN st t1 (j + 1)).length = 32 := length_sha256 _; first | decide | (show 0 + 32 * 1 ≤ (lastN st t1 (j + 1)).length; omega) | omega) (by decide) rfl (by have hq : (lastN st t1 (j + 1)).length = 32 := length_sha256 _; first | decide | (show 0 + 32 * 1 ≤ (lastN st t1 (j + 1)).length; omega) | omega)) trivial rfl ?_
  refine .as (.sl 1136 0 (lastN st t1 (j + 1)).length 1) (slice_as2 rfl (length_sha256 _).symm) ?_
  refine .q (op_bytes_str Tryz.underlying33 Tryz.underlying5 Tryz.underlying9 rfl rfl rfl (by show _ ≤ (lastN st t1 (j + 1)).length; omega)) trivial rfl ?_
  refine .as (.str (lastN st t1 (j + 1))) (congrArg AV.str (by simp)) ?_
  refine .q (op_addS rfl rfl (by have : (lastN st t1 (j + 1)).length = 32 := length_sha256 _; omega)) trivial rfl ?_
  refine .as (.str (keyN st t1 (j + 1))) rfl ?_
  refine .q (op_assign rfl) trivial rfl ?_
  refine .nil ?_
  exact ⟨⟨j + 1, by omega⟩, by (try dsimp only); omega, StLe.mk [(1136, 1136)] rfl rfl ⟨⟨_, rfl, by first | rfl | (simp only [AV.ren]; rfl), rfl⟩, ⟨_, rfl, by first | rfl | (simp only [AV.ren]; rfl), rfl⟩, ⟨_, rfl, by first | rfl | (simp only [AV.ren]; rfl), rfl⟩, ⟨_, rfl, by first | rfl | (simp only [AV.ren]; rfl), rfl⟩, trivial⟩ ⟨⟨_, _, rfl, rfl, rfl, rfl, id, rfl⟩, ⟨_, _, rfl, rfl, rfl, rfl, id, rfl⟩, trivial⟩⟩
 ·simp only [decide_eq_false_iff_not] at hc35
  refine .exit ?_
  show Ev _ _ _ _ _
  refine .seq ?_
  refine .region ?_
  refine .q (op_move rfl) trivial rfl ?_
  refine .q (op_move rfl) trivial rfl ?_
  refine .q (ap_slice_str_hi Tryz.underlying9 rfl (bnd_some rfl (show _ = ((m : Nat) : Int) from rfl)) (by omega)) trivial rfl ?_
  refine .q (op_assign rfl) trivial rfl ?_
  refine .nil ?_
  show Ev _ _ _ _ _
  refine .ret ?_
  show RetOk _ _ _ _ _ _ _
  exact ret1v rfl (.inl rfl) rfl (congrArg AV.str (by unfold derP; rw [hst, ht1]; exact (key_pre st t1 h1l m j (by omega) 254 hj).symm)) trivial
end Go.Proofs.YtdmlpblaelfdmaaGreatDoor
