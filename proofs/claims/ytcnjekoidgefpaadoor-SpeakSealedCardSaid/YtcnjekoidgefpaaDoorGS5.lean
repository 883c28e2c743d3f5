/-
  Texts of this claim.
-/
import Derived.Test.YtcnjekoidgefpaaDoorGS2
import Derived.Test.YtcnjekoidgefpaaDoorGS
import Derived.Test.YtcnjekoidgefpaaDoorGS3
namespace Go.Proofs.YtcnjekoidgefpaaDoor
open Go.RowKit
set_option maxRecDepth 100000 in
theorem pad256_ev (xs : List (List UInt8)) (n e : Nat) (hn : xs.length = n) (ht : totN xs n < 2 ^ 60) (hn6 : n < 2 ^ 60) : Meets Tryd.prog 127 [.i64 64, .sl 500 0 n 1] [(500, some ⟨.aggS xs, e, false⟩)] (.str (padBytes (padLen 64 (totN xs n)) (totN xs n))) [(500, some ⟨.aggS xs, e, false⟩)] := by
 generalize hm : padLen 64 (totN xs n) = m
 have hm2 : m = 9 + (64 - (totN xs n + 9) % 64) % 64 := by rw [← hm]; rfl
 refine meets_of_ev (nt := 51) Tryd.func127 rfl rfl (Nat.le_of_ble_eq_true rfl) ?_
 refine .seq ?_
 refine .region ?_
 refine .q (op_assign rfl) trivial rfl ?_
 refine .nil ?_
 show Ev _ _ _ _ _
 refine .seq ?_
 refine .region ?_
 refine .q (op_assign rfl) trivial rfl ?_
 refine .nil ?_
 show Ev _ _ _ _ _
 refine .seq ?_
 refine .seq ?_
 refine .region ?_
 refine .q (op_move rfl) trivial rfl ?_
 refine .q (op_len_sl Tryd.underlying110 rfl) trivial rfl ?_
 refine .q (op_move rfl) trivial rfl ?_
 refine .nil ?_
 show Ev _ _ _ _ _
 refine .block ?_
 refine Ev.loop (ι := { j : Nat // j ≤ n }) (fun j => ⟨[(0, .i64 64), (11, .sl 500 0 n 1), (5, .i64 ((totN xs j.1 : Nat) : Int)), (12, .i64 (n : Int)), (13, .i64 ((j.1 : Nat) : Int))], [(500, some ⟨.aggS xs, e, false⟩)], 1000⟩) (fun j => n - j.1) ⟨0, Nat.zero_le _⟩ (StLe.mk [] rfl rfl ⟨⟨_, rfl, by first | rfl | (simp only [AV.ren]; congr 1; omega), rfl⟩, ⟨_, rfl, by first | rfl | (simp only [AV.ren]; congr 1; omega), rfl⟩, ⟨_, rfl, by first | rfl | (simp only [AV.ren]; congr 1; omega), rfl⟩, ⟨_, rfl, by first | rfl | (simp only [AV.ren]; congr 1; omega), rfl⟩, ⟨_, rfl, by first | rfl | (simp only [AV.ren]; congr 1; omega), rfl⟩, trivial⟩ ⟨⟨_, _, rfl, rfl, by first | rfl | (simp only [AV.ren]; congr 1; omega), rfl, id, rfl⟩, trivial⟩) ?_
 rintro ⟨j, hj⟩
 dsimp only
 have htj : j < n → totN xs (j + 1) ≤ totN xs n := fun h => totN_le xs n (j + 1) h
 refine .seq ?_
 refine .region ?_
 refine .q (op_cmpI rfl rfl rfl) trivial rfl ?_
 refine .nil ?_
 show Ev _ _ _ _ _
 refine .seq ?_
 refine .cond rfl (fun hc14 => ?_) (fun hc14 => ?_)
 ·simp only [decide_eq_true_eq] at hc14
  refine .skip ?_
  show Ev _ _ _ _ _
  refine .seq ?_
  refine .block ?_
  refine .seq ?_
  refine .region ?_
  refine .q (ap_idx0 Tryd.underlying110 inf9.sz rfl rfl rfl (by first | omega | (simp only [AV.len]; omega) | (simp only [AV.len, List.length_set]; omega) | assumption | (simp [AV.len]; done))) trivial rfl ?_
  refine .q (op_load Tryd.underlying9 rfl rfl rfl rfl (by first | omega | (simp only [AV.len]; omega) | (simp only [AV.len, List.length_set]; omega) | assumption | (simp [AV.len]; done))) trivial rfl ?_
  refine .q (op_assign rfl) trivial rfl ?_
  refine .nil ?_
  show Ev _ _ _ _ _
  refine .region ?_
  refine .q (op_move rfl) trivial rfl ?_
  refine .q (op_move rfl) trivial rfl ?_
  refine .q (op_len_str Tryd.underlying9 rfl) trivial rfl ?_
  refine .q (op_addI rfl rfl ⟨by have h1 := htj (by omega); simp only [totN, List.getD_eq_getElem?_getD] at h1; simp only [List.getD_eq_getElem?_getD]; omega, by have h1 := htj (by omega); simp only [totN, List.getD_eq_getElem?_getD] at h1; simp only [List.getD_eq_getElem?_getD]; omega⟩) trivial rfl ?_
  refine .as (.i64 ((totN xs (j + 1) : Nat) : Int)) (congrArg AV.i64 (by simp [totN])) ?_
  refine .q (op_assign rfl) trivial rfl ?_
  refine .nil ?_
  show Ev _ _ _ _ _
  refine .region ?_
  refine .q (op_addI rfl rfl ⟨by omega, by omega⟩) trivial rfl ?_
  refine .q (op_move rfl) trivial rfl ?_
  refine .nil ?_
  exact ⟨⟨j + 1, by omega⟩, by show n - (j + 1) < n - j; omega, StLe.mk [] rfl rfl ⟨⟨_, rfl, by first | rfl | (simp only [AV.ren]; congr 1; omega), rfl⟩, ⟨_, rfl, by first | rfl | (simp only [AV.ren]; congr 1; omega), rfl⟩, ⟨_, rfl, by first | rfl | (simp only [AV.ren]; congr 1; omega), rfl⟩, ⟨_, rfl, by first | rfl | (simp only [AV.ren]; congr 1; omega), rfl⟩, ⟨_, rfl, by first | rfl | (simp only [AV.ren]; congr 1; omega), rfl⟩, trivial⟩ ⟨⟨_, _, rfl, rfl, by first | rfl | (simp only [AV.ren]; congr 1; omega), rfl, id, rfl⟩, trivial⟩⟩
 ·simp only [decide_eq_false_iff_not] at hc14
  refine .exit ?_
  show Ev _ _ _ _ _
  have ej : j = n := by omega
  refine Ev.weak (st2 := ⟨[(0, .i64 64), (11, .sl 500 0 n 1), (5, .i64 ((totN xs (n) : Nat) : Int)), (12, .i64 (n : Int)), (13, .i64 (((n) : Nat) : Int))], [(500, some ⟨.aggS xs, e, false⟩)], 1000⟩) (StLe.mk [] rfl rfl ⟨⟨_, rfl, by first | (simp only [AV.ren]; done) | (simp only [AV.ren]; rw [ej]; done) | rfl, rfl⟩, ⟨_, rfl, by first | (simp only [AV.ren]; done) | (simp only [AV.ren]; rw [ej]; done) | rfl, rfl⟩, ⟨_, rfl, by first | (simp only [AV.ren]; done) | (simp only [AV.ren]; rw [ej]; done) | rfl, rfl⟩, ⟨_, rfl, by first | (simp only [AV.ren]; done) | (simp only [AV.ren]; rw [ej]; done) | rfl, rfl⟩, ⟨_, rfl, by first | (simp only [AV.ren]; done) | (simp only [AV.ren]; rw [ej]; done) | rfl, rfl⟩, trivial⟩ ⟨⟨_, _, rfl, rfl, by first | (simp only [AV.ren]; done) | (simp only [AV.ren]; rw [ej]; done) | rfl, rfl, id, rfl⟩, trivial⟩) ?_
  refine .seq ?_
  refine .region ?_
  refine .q (op_move rfl) trivial rfl ?_
  refine .q (op_quoI rfl rfl ⟨by omega, ⟨by omega, by omega⟩, by omega⟩) trivial rfl ?_
  refine .q (op_addI rfl rfl ⟨by omega, by omega⟩) trivial rfl ?_
  refine .as (.i64 9) rfl ?_
  refine .q (op_assign rfl) trivial rfl ?_
  refine .nil ?_
  show Ev _ _ _ _ _
  refine .seq ?_
  refine .region ?_
  refine .q (op_move rfl) trivial rfl ?_
  refine .q (op_move rfl) trivial rfl ?_
  refine .q (op_move rfl) trivial rfl ?_
  refine .q (op_addI rfl rfl ⟨by omega, by omega⟩) trivial rfl ?_
  refine .as (.i64 ((totN xs n + 9 : Nat) : Int)) (congrArg AV.i64 (by omega)) ?_
  refine .q (op_move rfl) trivial rfl ?_
  refine .q (op_remI rfl rfl ⟨by omega, by omega⟩) trivial rfl ?_
  refine .as (.i64 (((totN xs n + 9) % 64 : Nat) : Int)) (congrArg AV.i64 (by omega)) ?_
  refine .q (op_subI rfl rfl ⟨by omega, by omega⟩) trivial rfl ?_
  refine .as (.i64 ((64 - (totN xs n + 9) % 64 : Nat) : Int)) (congrArg AV.i64 (by omega)) ?_
  refine .q (op_move rfl) trivial rfl ?_
  refine .q (op_remI rfl rfl ⟨by omega, by omega⟩) trivial rfl ?_
  refine .as (.i64 (((64 - (totN xs n + 9) % 64) % 64 : Nat) : Int)) (congrArg AV.i64 (by omega)) ?_
  refine .q (op_assign rfl) trivial rfl ?_
  refine .nil ?_
  show Ev _ _ _ _ _
  refine .seq ?_
  refine .region ?_
  refine .q (op_move rfl) trivial rfl ?_
  refine .q (op_move rfl) trivial rfl ?_
  refine .q (op_addI rfl rfl ⟨by omega, by omega⟩) trivial rfl ?_
  refine .as (.i64 ((m : Nat) : Int)) (congrArg AV.i64 (by omega)) ?_
  refine .a (ap_make (n := m) (c := .aggB (List.replicate m 0)) Tryd.underlying28 inf5 rfl rfl rfl rfl (by first | omega | (simp only [AV.len]; omega) | (simp only [AV.len, List.length_set]; omega) | assumption | (simp [AV.len]; done)) (rel_zero5) rfl (by simp [AV.list, AV.parts])) trivial rfl ?_
  refine .q (op_assign rfl) trivial rfl ?_
  refine .nil ?_
  show Ev _ _ _ _ _
  refine .seq ?_
  refine .region ?_
  refine .q (op_move rfl) trivial rfl ?_
  refine .q (ap_idx0 Tryd.underlying28 inf5.sz rfl rfl rfl (by first | omega | (simp only [AV.len]; omega) | (simp only [AV.len, List.length_set]; omega) | assumption | (simp [AV.len]; done))) trivial rfl ?_
  refine .w (op_store inf5.sz rfl rfl rfl rfl rfl (by simp only [AV.len, List.length_replicate]; omega)) trivial rfl ?_
  refine .nil ?_
  show Ev _ _ _ _ _
  refine .seq ?_
  refine .region ?_
  refine .q (op_move rfl) trivial rfl ?_
  refine .q (op_move rfl) trivial rfl ?_
  refine .q (op_len_sl Tryd.underlying28 rfl) trivial rfl ?_
  refine .q (op_subI rfl rfl ⟨by omega, by omega⟩) trivial rfl ?_
  refine .as (.i64 ((m - 8 : Nat) : Int)) (congrArg AV.i64 (by omega)) ?_
  refine .q (op_slice_sl Tryd.underlying28 inf5.sz rfl (bnd_some rfl (l := m - 8) rfl) rfl (by omega) (by omega)) trivial rfl ?_
  refine .as (.sl 1000 (m - 8) 8 1) (by congr 1 <;> omega) ?_
  refine .q (op_move rfl) trivial rfl ?_
  refine .q (op_conv Tryd.underlying3 Tryd.underlying37 rfl rfl) trivial rfl ?_
  refine .q (op_bin64 rfl rfl rfl) trivial rfl ?_
  refine .as (.u64 (UInt64.ofNat (totN xs n * 8))) (congrArg AV.u64 (by rw [ofI64_nat, UInt64.ofNat_mul])) ?_
  refine .a (op_call (U := [(1000, some ⟨.aggB (pbN ((List.replicate m 0).set 0 128) (m - 8) 8 (UInt64.ofNat (totN xs n * 8)) 8), 5, true⟩)]) [(500, 1000)] [] (hput_ev ((List.replicate m 0).set 0 128) (m - 8) 8 5 (UInt64.ofNat (totN xs n * 8)) (by simp; omega) (by omega)) Tryd.func83 (by kernel_rfl) rfl rfl rfl (⟨⟨_, rfl, rfl, rfl⟩, ⟨_, rfl, rfl, rfl⟩, trivial⟩) (⟨⟨_, _, rfl, rfl, rfl, rfl, id, rfl⟩, trivial⟩) (⟨⟨500, _, rfl, rfl, rfl, rfl, .inr ⟨rfl, _, rfl, rfl⟩⟩, trivial⟩) (⟨(fun _ => ⟨1000, _, rfl, rfl⟩), trivial⟩) rfl) trivial rfl ?_
  refine .nil ?_
  show Ev _ _ _ _ _
  refine .seq ?_
  refine .region ?_
  refine .q (op_move rfl) trivial rfl ?_
  refine .q (op_bytes_str Tryd.underlying28 Tryd.underlying5 Tryd.underlying9 rfl rfl rfl (by rw [length_pbN]; simp)) trivial rfl ?_
  refine .as (.str (padBytes m (totN xs n))) (congrArg AV.str (pad_eq m (totN xs n) (by omega))) ?_
  refine .q (op_assign rfl) trivial rfl ?_
  refine .nil ?_
  show Ev _ _ _ _ _
  refine .ret ?_
  show RetOk _ _ _ _ _ _ _
  exact ret1v rfl (.inl rfl) rfl rfl ⟨rfl, trivial⟩
end Go.Proofs.YtcnjekoidgefpaaDoor
namespace Go.Proofs.YtcnjekoidgefpaaDoor
open Go.RowKit
/-- Where the outer loop stands. -/
structure EI (T : List UInt8) (ys : List (List UInt8)) where
  j : Nat
  bl : List UInt8
  hj : j ≤ ys.length
  hb : EB 64 T bl (joinN ys j).length
/-- Where the inner loop stands. -/
structure EJ (T q : List UInt8) where
  r : List UInt8
  bl : List UInt8
  t : Nat
  hd : T.drop t = r ++ q
  hb : EB 64 T bl t
theorem eb_zero (T : List UInt8) : EB 64 T (List.replicate 64 0) 0 := ⟨by simp, Nat.zero_le _, by simp⟩
set_option maxHeartbeats 2000000 in
set_option maxRecDepth 100000 in
theorem each256_ev (s : St32) (xs : List (List UInt8)) (P T : List UInt8) (e e3 ek : Nat) (hP : (padBytes (padLen 64 (totN xs xs.length)) (totN xs xs.length)) = P) (hT : T = (xs ++ [P]).flatten) (ht : totN xs xs.length < 2 ^ 60) (hn5 : xs.length ≤ 100000) (hn6 : xs.length < 2 ^ 60) : Meets Tryd.prog 62 [.i64 64, .sl 500 0 xs.length 1, .clo 63 [.ptr 501 0]] [(500, some ⟨.aggS xs, e, false⟩), (501, some ⟨.agg32 (stlq s), e3, true⟩), (5, some ⟨.agg32 K256, ek, false⟩)] (.tup []) [(501, some ⟨.agg32 (stlq (blocks32 s T (T.length / 64))), e3, true⟩)] := by
 refine meets_of_ev (nt := 46) Tryd.func62 rfl rfl (Nat.le_of_ble_eq_true rfl) ?_
 refine .seq ?_
 refine .region ?_
 refine .q (op_move rfl) trivial rfl ?_
 refine .a (ap_make (n := 64) (c := .aggB (List.replicate 64 0)) Tryd.underlying28 inf5 rfl rfl rfl rfl (by first | omega | (simp only [AV.len]; omega) | (simp only [AV.len, List.length_set]; omega) | assumption | (simp [AV.len]; done)) (rel_zero5) rfl (rfl)) trivial rfl ?_
 refine .q (op_assign rfl) trivial rfl ?_
 refine .nil ?_
 show Ev _ _ _ _ _
 refine .seq ?_
 refine .region ?_
 refine .q (op_assign rfl) trivial rfl ?_
 refine .nil ?_
 show Ev _ _ _ _ _
 refine .seq ?_
 refine .region ?_
 refine .q (op_move rfl) trivial rfl ?_
 refine .q (op_move rfl) trivial rfl ?_
 refine .q (op_move rfl) trivial rfl ?_
 refine .q (op_call (U := []) [(500, 500)] [] (pad256_ev xs xs.length e rfl ht hn6) Tryd.func127 (by kernel_rfl) rfl rfl rfl (⟨⟨_, rfl, rfl, rfl⟩, ⟨_, rfl, rfl, rfl⟩, trivial⟩) (⟨⟨_, _, rfl, rfl, rfl, rfl, (fun h => by cases h), rfl⟩, trivial⟩) (trivial) (⟨(fun h => by cases h), trivial⟩) rfl) trivial rfl ?_
 refine .as (.str P) (congrArg AV.str hP) ?_
 refine .a (ap_build (us := [_]) (c := .aggS [_]) Tryd.underlying110 inf9 rfl (by decide) (by decide) ⟨rfl, rfl, rfl, trivial⟩ rfl) trivial rfl ?_
 refine .a (ap_build (us := [_, _]) (c := .agg [_, _]) Tryd.underlying216 inf110 rfl (by decide) (by decide) ⟨rfl, rfl, rfl, rfl, rfl, rfl, trivial⟩ rfl) trivial rfl ?_
 refine .a (op_call (U := [(1024, some ⟨.aggS (xs ++ [P]), 9, true⟩)]) [(500, 1016), (501, 500), (502, 1008)] [(1024, 1000)] (concat_ev xs [P] 110 e 9 (by simp) hn5 (by simp)) Tryd.func125 (by kernel_rfl) rfl rfl rfl (⟨⟨_, rfl, rfl, rfl⟩, trivial⟩) (⟨⟨_, _, rfl, rfl, rfl, rfl, (fun h => by cases h), rfl⟩, ⟨_, _, rfl, rfl, rfl, rfl, (fun h => by cases h), rfl⟩, ⟨_, _, rfl, rfl, rfl, rfl, (fun h => by cases h), rfl⟩, trivial⟩) (⟨⟨1000, _, rfl, rfl, rfl, rfl, .inl rfl⟩, trivial⟩) (⟨(fun h => by cases h), (fun h => by cases h), (fun h => by cases h), trivial⟩) rfl) trivial rfl ?_
 refine .as (.sl 1024 0 (xs.length + 1) 1) rfl ?_
 refine .q (op_len_sl Tryd.underlying110 rfl) trivial rfl ?_
 refine .q (op_move rfl) trivial rfl ?_
 refine .nil ?_
 show Ev _ _ _ _ _
 refine .block ?_
 refine Ev.loop (ι := EI T (xs ++ [P])) (fun q => ⟨[(0, .i64 64), (2, .clo 63 [.ptr 501 0]), (6, .sl 1000 0 64 1), (7, .i64 ((((joinN (xs ++ [P]) q.j).length) % 64 : Nat) : Int)), (19, .sl 1024 0 (xs.length + 1) 1), (20, .i64 ((xs.length + 1 : Nat) : Int)), (21, .i64 ((q.j : Nat) : Int))], [(1000, some ⟨.aggB q.bl, 5, true⟩), (1024, some ⟨.aggS (xs ++ [P]), 9, true⟩), (501, some ⟨.agg32 (stlq (blocks32 s T (((joinN (xs ++ [P]) q.j).length) / 64))), e3, true⟩), (5, some ⟨.agg32 K256, ek, false⟩)], 1032⟩) (fun q => xs.length + 1 - q.j) ⟨0, List.replicate 64 0, Nat.zero_le _, eb_zero T⟩ (StLe.mk [(1000, 1000), (1024, 1024)] rfl rfl ⟨⟨_, rfl, by first | rfl | (simp only [AV.ren]; rfl) | (simp only [AV.ren]; congr 1; omega), rfl⟩, ⟨_, rfl, by first | rfl | (simp only [AV.ren]; rfl) | (simp only [AV.ren]; congr 1; omega), rfl⟩, ⟨_, rfl, by first | rfl | (simp only [AV.ren]; rfl) | (simp only [AV.ren]; congr 1; omega), rfl⟩, ⟨_, rfl, by (simp only [AV.ren, joinN, List.take_zero, List.flatten_nil, List.length_nil, Nat.zero_mod]; rfl), rfl⟩, ⟨_, rfl, by first | rfl | (simp only [AV.ren]; rfl) | (simp only [AV.ren]; congr 1; omega), rfl⟩, ⟨_, rfl, by first | rfl | (simp only [AV.ren]; rfl) | (simp only [AV.ren]; congr 1; omega), rfl⟩, ⟨_, rfl, by first | rfl | (simp only [AV.ren]; rfl) | (simp only [AV.ren]; congr 1; omega), rfl⟩, trivial⟩ ⟨⟨_, _, rfl, rfl, rfl, rfl, id, rfl⟩, ⟨_, _, rfl, rfl, rfl, rfl, id, rfl⟩, ⟨_, _, rfl, rfl, by (simp only [AV.ren, joinN, List.take_zero, List.flatten_nil, List.length_nil, Nat.zero_div, blocks32]), rfl, id, rfl⟩, ⟨_, _, rfl, rfl, rfl, rfl, id, rfl⟩, trivial⟩) ?_
 rintro ⟨j, bl, hj, hb⟩
 try dsimp only
 have hjl : j ≤ xs.length + 1 := by simpa using hj
 try simp only at hb
 refine .seq ?_
 refine .region ?_
 refine .q (op_cmpI rfl rfl rfl) trivial rfl ?_
 refine .nil ?_
 show Ev _ _ _ _ _
 refine .seq ?_
 refine .cond rfl (fun hc22 => ?_) (fun hc22 => ?_)
 ·simp only [decide_eq_true_eq] at hc22
  refine .skip ?_
  show Ev _ _ _ _ _
  refine .seq ?_
  refine .block ?_
  refine .seq ?_
  refine .region ?_
  have hj2 : j < (xs ++ [P]).length := by simp; omega
  refine .q (ap_idx0 Tryd.underlying110 inf9.sz rfl rfl rfl (by omega)) trivial rfl ?_
  refine .q (op_load Tryd.underlying9 rfl rfl rfl rfl (by simp only [AV.len, List.length_append, List.length_singleton]; omega)) trivial rfl ?_
  refine .q (op_assign rfl) trivial rfl ?_
  refine .nil ?_
  show Ev _ _ _ _ _
  refine .block ?_
  refine Ev.loop (ι := EJ T (((xs ++ [P]).drop (j + 1)).flatten)) (fun q => ⟨[(0, .i64 64), (2, .clo 63 [.ptr 501 0]), (6, .sl 1000 0 64 1), (7, .i64 (((q.t) % 64 : Nat) : Int)), (19, .sl 1024 0 (xs.length + 1) 1), (20, .i64 ((xs.length + 1 : Nat) : Int)), (21, .i64 ((j : Nat) : Int)), (9, .str q.r)], [(1000, some ⟨.aggB q.bl, 5, true⟩), (1024, some ⟨.aggS (xs ++ [P]), 9, true⟩), (501, some ⟨.agg32 (stlq (blocks32 s T ((q.t) / 64))), e3, true⟩), (5, some ⟨.agg32 K256, ek, false⟩)], 1032⟩) (fun q => q.r.length) ⟨(xs ++ [P]).getD j [], bl, (joinN (xs ++ [P]) j).length, (by rw [hT]; exact drop_join _ j hj2), hb⟩ (StLe.mk [(1000, 1000), (1024, 1024)] rfl rfl ⟨⟨_, rfl, by first | rfl | (simp only [AV.ren]; rfl) | (simp only [AV.ren]; congr 1; omega), rfl⟩, ⟨_, rfl, by first | rfl | (simp only [AV.ren]; rfl) | (simp only [AV.ren]; congr 1; omega), rfl⟩, ⟨_, rfl, by first | rfl | (simp only [AV.ren]; rfl) | (simp only [AV.ren]; congr 1; omega), rfl⟩, ⟨_, rfl, by first | rfl | (simp only [AV.ren]; rfl) | (simp only [AV.ren]; congr 1; omega), rfl⟩, ⟨_, rfl, by first | rfl | (simp only [AV.ren]; rfl) | (simp only [AV.ren]; congr 1; omega), rfl⟩, ⟨_, rfl, by first | rfl | (simp only [AV.ren]; rfl) | (simp only [AV.ren]; congr 1; omega), rfl⟩, ⟨_, rfl, by first | rfl | (simp only [AV.ren]; rfl) | (simp only [AV.ren]; congr 1; omega), rfl⟩, ⟨_, rfl, by first | rfl | (simp only [AV.ren, List.getD_eq_getElem?_getD]), rfl⟩, trivial⟩ ⟨⟨_, _, rfl, rfl, rfl, rfl, id, rfl⟩, ⟨_, _, rfl, rfl, rfl, rfl, id, rfl⟩, ⟨_, _, rfl, rfl, rfl, rfl, id, rfl⟩, ⟨_, _, rfl, rfl, rfl, rfl, id, rfl⟩, trivial⟩) ?_
  rintro ⟨r, bl2, t, hd, hb2⟩
  try dsimp only
  obtain ⟨n, hnm⟩ : ∃ n, n = min (64 - t % 64) r.length := ⟨_, rfl⟩
  have hn1 : n ≤ r.length := by omega
  have hlb : bl2.length = 64 := hb2.len
  have hm64 : t % 64 < 64 := Nat.mod_lt _ (by decide)
  have hn2 : t % 64 + n ≤ bl2.length := by omega
  have hlc : (cpB bl2 (t % 64) r n).length = 64 := by rw [length_cpB _ _ _ _ hn1 hn2]; exact hlb
  refine .seq ?_
  refine .seq ?_
  refine .region ?_
  refine .q (op_move rfl) trivial rfl ?_
  refine .q (op_len_str Tryd.underlying9 rfl) trivial rfl ?_
  refine .q (op_cmpI rfl rfl rfl) trivial rfl ?_
  refine .nil ?_
  show Ev _ _ _ _ _
  refine .cond rfl (fun hc27 => ?_) (fun hc27 => ?_)
  ·simp only [decide_eq_true_eq] at hc27
   refine .skip ?_
   show Ev _ _ _ _ _
   refine .block ?_
   refine .seq ?_
   refine .region ?_
   refine .q (op_move rfl) trivial rfl ?_
   refine .q (op_move rfl) trivial rfl ?_
   refine .q (op_slice_sl Tryd.underlying28 inf5.sz rfl (bnd_some rfl (l := t % 64) rfl) rfl (by first | omega | (simp only [AV.len]; omega)) (by first | omega | (simp only [AV.len]; omega))) trivial rfl ?_
   refine .q (op_move rfl) trivial rfl ?_
   refine .a (op_copy (q := n) (c' := .aggB (cpB bl2 (t % 64) r n)) Tryd.underlying28 inf5.sz rfl rfl rfl (srcs_str rfl) (by first | omega | (simp only [AV.len]; omega)) (by first | omega | (simp only []; omega)) (by first | exact copy_list _ _ _ _ hn1 hn2 | (simp [AV.list, AV.parts, cpB, List.map_append, List.map_take, List.map_drop]; done))) trivial rfl ?_
   refine .q (op_assign rfl) trivial rfl ?_
   refine .nil ?_
   show Ev _ _ _ _ _
   refine .seq ?_
   refine .region ?_
   refine .q (op_move rfl) trivial rfl ?_
   refine .q (op_move rfl) trivial rfl ?_
   refine .q (ap_slice_str_lo Tryd.underlying9 rfl (bnd_some rfl (l := n) rfl) (by omega)) trivial rfl ?_
   refine .q (op_assign rfl) trivial rfl ?_
   refine .nil ?_
   show Ev _ _ _ _ _
   refine .seq ?_
   refine .region ?_
   refine .q (op_move rfl) trivial rfl ?_
   refine .q (op_move rfl) trivial rfl ?_
   refine .q (op_addI rfl rfl ⟨by omega, by omega⟩) trivial rfl ?_
   refine .as (.i64 ((t % 64 + n : Nat) : Int)) (congrArg AV.i64 (by omega)) ?_
   refine .q (op_assign rfl) trivial rfl ?_
   refine .nil ?_
   show Ev _ _ _ _ _
   refine .seq ?_
   refine .region ?_
   refine .q (op_move rfl) trivial rfl ?_
   refine .q (op_move rfl) trivial rfl ?_
   refine .q (op_cmpI rfl rfl rfl) trivial rfl ?_
   refine .nil ?_
   show Ev _ _ _ _ _
   refine .cond rfl (fun hc41 => ?_) (fun hc41 => ?_)
   ·simp only [beq_iff_eq] at hc41
    refine .seq ?_
    refine .region ?_
    have hf4 := EB.full hb2 (by decide) hd hn1 (by omega)
    have hb3 := hf4.1
    have e7 : AV.i64 0 = AV.i64 (((t + n) % 64 : Nat) : Int) := by rw [hf4.2.2.2]; rfl
    have e5 : AV.agg32 (stlq (comp32 (blocks32 s T (t / 64)) (cpB bl2 (t % 64) r n))) = AV.agg32 (stlq (blocks32 s T ((t + n) / 64))) := by rw [hf4.2.2.1, hf4.2.1]; rfl
    refine .q (op_move rfl) trivial rfl ?_
    refine .q (op_move rfl) trivial rfl ?_
    refine .a (op_callClo (args := [.sl 500 0 64 1]) (args2 := [.ptr 501 0]) (U := [(501, some ⟨.agg32 (stlq (comp32 (blocks32 s T (t / 64)) (cpB bl2 (t % 64) r n))), e3, true⟩)]) [(500, 1000), (501, 501)] [] (clo256_ev (blocks32 s T (t / 64)) (cpB bl2 (t % 64) r n) ek 5 e3 hlc) Tryd.func63 (by kernel_rfl) rfl rfl rfl rfl rfl rfl ⟨⟨_, rfl, rfl, rfl⟩, trivial⟩ ⟨⟨_, _, rfl, rfl, rfl, rfl, (fun h => by cases h), rfl⟩, ⟨_, _, rfl, rfl, rfl, rfl, id, rfl⟩, ⟨_, _, rfl, rfl, rfl, rfl, (fun h => by cases h), rfl⟩, trivial⟩ ⟨⟨501, _, rfl, rfl, rfl, rfl, .inr ⟨rfl, _, rfl, rfl⟩⟩, trivial⟩ ⟨(fun h => by cases h), (fun _ => ⟨501, _, rfl, rfl⟩), (fun h => by cases h), trivial⟩ rfl) trivial rfl ?_
    refine .nil ?_
    show Ev _ _ _ _ _
    refine .region ?_
    refine .q (op_assign rfl) trivial rfl ?_
    refine .nil ?_
    exact ⟨⟨r.drop n, cpB bl2 (t % 64) r n, t + n, drop_next hd hn1, hb3⟩, by (try dsimp only); simp only [List.length_drop]; omega, StLe.mk [(1000, 1000), (1024, 1024)] rfl rfl ⟨⟨_, rfl, by first | rfl | (simp only [AV.ren]; rfl) | (simp only [AV.ren]; congr 1; omega), rfl⟩, ⟨_, rfl, by first | rfl | (simp only [AV.ren]; rfl) | (simp only [AV.ren]; congr 1; omega), rfl⟩, ⟨_, rfl, by first | rfl | (simp only [AV.ren]; rfl) | (simp only [AV.ren]; congr 1; omega), rfl⟩, ⟨_, rfl, by first | exact e7 | (simp only [AV.ren]; exact e7), rfl⟩, ⟨_, rfl, by first | rfl | (simp only [AV.ren]; rfl) | (simp only [AV.ren]; congr 1; omega), rfl⟩, ⟨_, rfl, by first | rfl | (simp only [AV.ren]; rfl) | (simp only [AV.ren]; congr 1; omega), rfl⟩, ⟨_, rfl, by first | rfl | (simp only [AV.ren]; rfl) | (simp only [AV.ren]; congr 1; omega), rfl⟩, ⟨_, rfl, by first | rfl | (simp only [AV.ren]; rfl), rfl⟩, trivial⟩ ⟨⟨_, _, rfl, rfl, rfl, rfl, id, rfl⟩, ⟨_, _, rfl, rfl, rfl, rfl, id, rfl⟩, ⟨_, _, rfl, rfl, (by first | exact e5 | (simp only [AV.ren]; exact e5) | rfl), rfl, id, rfl⟩, ⟨_, _, rfl, rfl, rfl, rfl, id, rfl⟩, trivial⟩⟩
   ·simp only [ne_eq, beq_eq_false_iff_ne] at hc41
    have hu9 : t % 64 + n < 64 := by omega
    have hb3 := EB.part hb2 (by decide) hd hn1 hu9
    have e7 : AV.i64 ((t % 64 + n : Nat) : Int) = AV.i64 (((t + n) % 64 : Nat) : Int) := congrArg AV.i64 (by omega)
    have e5 : AV.agg32 (stlq (blocks32 s T (t / 64))) = AV.agg32 (stlq (blocks32 s T ((t + n) / 64))) := by rw [show (t + n) / 64 = t / 64 by omega]
    refine .skip ?_
    exact ⟨⟨r.drop n, cpB bl2 (t % 64) r n, t + n, drop_next hd hn1, hb3⟩, by (try dsimp only); simp only [List.length_drop]; omega, StLe.mk [(1000, 1000), (1024, 1024)] rfl rfl ⟨⟨_, rfl, by first | rfl | (simp only [AV.ren]; rfl) | (simp only [AV.ren]; congr 1; omega), rfl⟩, ⟨_, rfl, by first | rfl | (simp only [AV.ren]; rfl) | (simp only [AV.ren]; congr 1; omega), rfl⟩, ⟨_, rfl, by first | rfl | (simp only [AV.ren]; rfl) | (simp only [AV.ren]; congr 1; omega), rfl⟩, ⟨_, rfl, by first | exact e7 | (simp only [AV.ren]; exact e7), rfl⟩, ⟨_, rfl, by first | rfl | (simp only [AV.ren]; rfl) | (simp only [AV.ren]; congr 1; omega), rfl⟩, ⟨_, rfl, by first | rfl | (simp only [AV.ren]; rfl) | (simp only [AV.ren]; congr 1; omega), rfl⟩, ⟨_, rfl, by first | rfl | (simp only [AV.ren]; rfl) | (simp only [AV.ren]; congr 1; omega), rfl⟩, ⟨_, rfl, by first | rfl | (simp only [AV.ren]; rfl), rfl⟩, trivial⟩ ⟨⟨_, _, rfl, rfl, rfl, rfl, id, rfl⟩, ⟨_, _, rfl, rfl, rfl, rfl, id, rfl⟩, ⟨_, _, rfl, rfl, (by first | exact e5 | (simp only [AV.ren]; exact e5) | rfl), rfl, id, rfl⟩, ⟨_, _, rfl, rfl, rfl, rfl, id, rfl⟩, trivial⟩⟩
  ·simp only [decide_eq_false_iff_not] at hc27
   refine .exit ?_
   show Ev _ _ _ _ _
   have hr0 : r = [] := List.eq_nil_of_length_eq_zero (by omega)
   have hte : t = (joinN (xs ++ [P]) (j + 1)).length := ej_end hT hj2 rfl (by rw [hd, hr0]; rfl) hb2.le
   refine Ev.weak (st2 := ⟨[(0, .i64 64), (2, .clo 63 [.ptr 501 0]), (6, .sl 1000 0 64 1), (7, .i64 ((((joinN (xs ++ [P]) (j + 1)).length) % 64 : Nat) : Int)), (19, .sl 1024 0 (xs.length + 1) 1), (20, .i64 ((xs.length + 1 : Nat) : Int)), (21, .i64 ((j : Nat) : Int))], [(1000, some ⟨.aggB bl2, 5, true⟩), (1024, some ⟨.aggS (xs ++ [P]), 9, true⟩), (501, some ⟨.agg32 (stlq (blocks32 s T (((joinN (xs ++ [P]) (j + 1)).length) / 64))), e3, true⟩), (5, some ⟨.agg32 K256, ek, false⟩)], 1032⟩) (StLe.mk [(1000, 1000), (1024, 1024)] rfl rfl ⟨⟨_, rfl, by first | rfl | (simp only [AV.ren]; rw [hte]), rfl⟩, ⟨_, rfl, by first | rfl | (simp only [AV.ren]; rw [hte]), rfl⟩, ⟨_, rfl, by first | rfl | (simp only [AV.ren]; rw [hte]), rfl⟩, ⟨_, rfl, by first | rfl | (simp only [AV.ren]; rw [hte]), rfl⟩, ⟨_, rfl, by first | rfl | (simp only [AV.ren]; rw [hte]), rfl⟩, ⟨_, rfl, by first | rfl | (simp only [AV.ren]; rw [hte]), rfl⟩, ⟨_, rfl, by first | rfl | (simp only [AV.ren]; rw [hte]), rfl⟩, trivial⟩ ⟨⟨_, _, rfl, rfl, by first | rfl | (rw [hte]; rfl) | (rw [hte]), rfl, id, rfl⟩, ⟨_, _, rfl, rfl, by first | rfl | (rw [hte]; rfl) | (rw [hte]), rfl, id, rfl⟩, ⟨_, _, rfl, rfl, by first | rfl | (rw [hte]; rfl) | (rw [hte]), rfl, id, rfl⟩, ⟨_, _, rfl, rfl, by first | rfl | (rw [hte]; rfl) | (rw [hte]), rfl, id, rfl⟩, trivial⟩) ?_
   show Ev _ _ _ _ _
   refine .region ?_
   refine .q (op_addI rfl rfl ⟨by omega, by omega⟩) trivial rfl ?_
   refine .q (op_move rfl) trivial rfl ?_
   refine .nil ?_
   exact ⟨⟨j + 1, bl2, by simp; omega, hte ▸ hb2⟩, by (try dsimp only); omega, StLe.mk [(1000, 1000), (1024, 1024)] rfl rfl ⟨⟨_, rfl, by first | rfl | (simp only [AV.ren]; rfl) | (simp only [AV.ren]; congr 1; omega), rfl⟩, ⟨_, rfl, by first | rfl | (simp only [AV.ren]; rfl) | (simp only [AV.ren]; congr 1; omega), rfl⟩, ⟨_, rfl, by first | rfl | (simp only [AV.ren]; rfl) | (simp only [AV.ren]; congr 1; omega), rfl⟩, ⟨_, rfl, by first | rfl | (simp only [AV.ren]; rfl) | (simp only [AV.ren]; congr 1; omega), rfl⟩, ⟨_, rfl, by first | rfl | (simp only [AV.ren]; rfl) | (simp only [AV.ren]; congr 1; omega), rfl⟩, ⟨_, rfl, by first | rfl | (simp only [AV.ren]; rfl) | (simp only [AV.ren]; congr 1; omega), rfl⟩, ⟨_, rfl, by first | rfl | (simp only [AV.ren]; rfl) | (simp only [AV.ren]; congr 1; omega), rfl⟩, trivial⟩ ⟨⟨_, _, rfl, rfl, rfl, rfl, id, rfl⟩, ⟨_, _, rfl, rfl, rfl, rfl, id, rfl⟩, ⟨_, _, rfl, rfl, rfl, rfl, id, rfl⟩, ⟨_, _, rfl, rfl, rfl, rfl, id, rfl⟩, trivial⟩⟩
 ·simp only [decide_eq_false_iff_not] at hc22
  refine .exit ?_
  show RetOk _ _ _ _ _ _ _
  have hje : j = xs.length + 1 := by omega
  have hjT : joinN (xs ++ [P]) (xs.length + 1) = T := by rw [hT, ← joinN_all]; simp
  have hX : stlq (blocks32 s T ((joinN (xs ++ [P]) j).length / 64)) = stlq (blocks32 s T (T.length / 64)) := by rw [hje, hjT]
  exact ret0 rfl (.inr rfl) ⟨by rw [← hX]; rfl, trivial⟩
end Go.Proofs.YtcnjekoidgefpaaDoor
namespace Go.Proofs.YtcnjekoidgefpaaDoor
open Go.RowKit
/-- The first words of a state, written. -/
def outN (h : List UInt32) : Nat → List UInt8
  | 0 => List.replicate 32 0
  | j + 1 => pbNq (outN h j) (4 * j) 4 (h.getD j 0) 4
theorem length_outN (h : List UInt32) (j : Nat) : (outN h j).length = 32 := by
  induction j with
  | zero => rfl
  | succ j ih => rw [outN, length_pbNq]; exact ih
theorem rep32 : List.replicate 32 (0 : UInt8) = [0, 0, 0, 0, 0, 0, 0, 0, 0, 0, 0, 0, 0, 0, 0, 0, 0, 0, 0, 0, 0, 0, 0, 0, 0, 0, 0, 0, 0, 0, 0, 0] := rfl
theorem out_dig (s : St32) : outN (stlq s) 8 = digest32 s := by
  simp only [outN, pbNq, stlq, List.getD_cons_zero, List.getD_cons_succ, rep32, List.set_cons_zero, List.set_cons_succ, Nat.reduceMul, Nat.reduceAdd, Nat.reduceSub]
  rfl
theorem sha_flat (xs : List (List UInt8)) : digest32 (blocks32 init32 (xs ++ [padBytes (padLen 64 (totN xs xs.length)) (totN xs xs.length)]).flatten ((xs ++ [padBytes (padLen 64 (totN xs xs.length)) (totN xs xs.length)]).flatten.length / 64)) = sha256 xs.flatten := by
  rw [totN_flat, List.flatten_append, List.flatten_cons, List.flatten_nil, List.append_nil]; rfl
set_option maxHeartbeats 1000000 in
set_option maxRecDepth 100000 in
theorem sum256_ev (xs : List (List UInt8)) (e ek : Nat) (ht : totN xs xs.length < 2 ^ 60) (hn5 : xs.length ≤ 100000) : Meets Tryd.prog 24 [.sl 500 0 xs.length 1] [(500, some ⟨.aggS xs, e, false⟩), (5, some ⟨.agg32 K256, ek, false⟩)] (.aggB (sha256 xs.flatten)) [] := by
 obtain ⟨st, hst⟩ : ∃ st, (blocks32 init32 ((xs ++ [(padBytes (padLen 64 (totN xs xs.length)) (totN xs xs.length))]).flatten) (((xs ++ [(padBytes (padLen 64 (totN xs xs.length)) (totN xs xs.length))]).flatten).length / 64)) = st := ⟨_, rfl⟩
 have hcall := each256_ev init32 xs (padBytes (padLen 64 (totN xs xs.length)) (totN xs xs.length)) ((xs ++ [(padBytes (padLen 64 (totN xs xs.length)) (totN xs xs.length))]).flatten) e 111 ek rfl rfl ht hn5 (by omega)
 rw [hst] at hcall
 refine meets_of_ev (nt := 25) Tryd.func24 rfl rfl (Nat.le_of_ble_eq_true rfl) ?_
 refine .seq ?_
 refine .region ?_
 refine .a (op_allocRow zero22 rel_zero22 rfl) trivial rfl ?_
 refine .nil ?_
 show Ev _ _ _ _ _
 refine .seq ?_
 refine .region ?_
 refine .q (op_buildArr (us := [(0, _), (1, _), (2, _), (3, _), (4, _), (5, _), (6, _), (7, _)]) Tryd.underlying111 inf61.sz zero111 rel_zero111 rfl (by decide) ⟨rfl, rfl, rfl, rfl, rfl, rfl, rfl, rfl, rfl, rfl, rfl, rfl, rfl, rfl, rfl, rfl, rfl, rfl, rfl, rfl, rfl, rfl, rfl, rfl, trivial⟩ rfl) trivial rfl ?_
 refine .as (.agg32 (stlq init32)) rfl ?_
 refine .a (op_allocRow zero111 rel_zero111 rfl) trivial rfl ?_
 refine .w (op_storeRow sz111 rfl rfl rfl rfl rfl (by first | decide | exact Nat.le_of_ble_eq_true rfl) (by first | decide | exact Nat.le_of_ble_eq_true rfl)) trivial rfl ?_
 refine .nil ?_
 show Ev _ _ _ _ _
 refine .seq ?_
 refine .region ?_
 refine .q (op_move rfl) trivial rfl ?_
 refine .q (op_makeFunc1 rfl) trivial rfl ?_
 refine .as (.clo 63 [.ptr 1008 0]) rfl ?_
 refine .a (op_call (U := [(1008, some ⟨.agg32 (stlq st), 111, true⟩)]) [(500, 500), (501, 1008)] [] (hcall) Tryd.func62 (by kernel_rfl) rfl rfl rfl (⟨⟨_, rfl, rfl, rfl⟩, ⟨_, rfl, rfl, rfl⟩, ⟨_, rfl, rfl, rfl⟩, trivial⟩) (⟨⟨_, _, rfl, rfl, rfl, rfl, (fun h => by cases h), rfl⟩, ⟨_, _, rfl, rfl, rfl, rfl, id, rfl⟩, ⟨_, _, rfl, rfl, rfl, rfl, (fun h => by cases h), rfl⟩, trivial⟩) (⟨⟨501, _, rfl, rfl, rfl, rfl, .inr ⟨rfl, _, rfl, rfl⟩⟩, trivial⟩) (⟨(fun h => by cases h), (fun _ => ⟨1008, _, rfl, rfl⟩), (fun h => by cases h), trivial⟩) rfl) trivial rfl ?_
 refine .nil ?_
 show Ev _ _ _ _ _
 refine .seq ?_
 refine .region ?_
 refine .a (op_allocRow zero22 rel_zero22 rfl) trivial rfl ?_
 refine .nil ?_
 show Ev _ _ _ _ _
 refine .seq ?_
 refine .seq ?_
 refine .region ?_
 refine .q (op_move rfl) trivial rfl ?_
 refine .nil ?_
 show Ev _ _ _ _ _
 refine .block ?_
 refine Ev.loop (ι := { j : Nat // j ≤ 8 }) (fun j => ⟨[(2, .ptr 1000 0), (3, .ptr 1008 0), (4, .ptr 1024 0), (10, .i64 ((j.1 : Nat) : Int))], [(1000, some ⟨.aggB (List.replicate 32 0), 22, true⟩), (1008, some ⟨.agg32 (stlq st), 111, true⟩), (1024, some ⟨.aggB (outN (stlq st) j.1), 22, true⟩)], 1032⟩) (fun j => 8 - j.1) ⟨0, Nat.zero_le _⟩ (StLe.mk [(1000, 1000), (1008, 1008), (1024, 1024)] rfl rfl ⟨⟨_, rfl, by first | rfl | (simp only [AV.ren]; congr 1; omega), rfl⟩, ⟨_, rfl, by first | rfl | (simp only [AV.ren]; congr 1; omega), rfl⟩, ⟨_, rfl, by first | rfl | (simp only [AV.ren]; congr 1; omega), rfl⟩, ⟨_, rfl, by first | rfl | (simp only [AV.ren]; congr 1; omega), rfl⟩, trivial⟩ ⟨⟨_, _, rfl, rfl, by first | rfl | (simp only [AV.ren]; congr 1; omega), rfl, id, rfl⟩, ⟨_, _, rfl, rfl, by first | rfl | (simp only [AV.ren]; congr 1; omega), rfl, id, rfl⟩, ⟨_, _, rfl, rfl, by first | rfl | (simp only [AV.ren]; congr 1; omega), rfl, id, rfl⟩, trivial⟩) ?_
 rintro ⟨j, hj⟩
 dsimp only
 have hlo := length_outN (stlq st) j
 have hls : (stlq st).length = 8 := rfl
 refine .seq ?_
 refine .region ?_
 refine .q (op_cmpI rfl rfl rfl) trivial rfl ?_
 refine .nil ?_
 show Ev _ _ _ _ _
 refine .seq ?_
 refine .cond rfl (fun hc11 => ?_) (fun hc11 => ?_)
 ·simp only [decide_eq_true_eq] at hc11
  refine .skip ?_
  show Ev _ _ _ _ _
  refine .seq ?_
  refine .block ?_
  refine .seq ?_
  refine .region ?_
  refine .q (op_move rfl) trivial rfl ?_
  refine .q (op_assign rfl) trivial rfl ?_
  refine .nil ?_
  show Ev _ _ _ _ _
  refine .drawn [[], [0], [], [2], [2, 3], [0, 1, 2, 3, 4], [], [6], [6, 7], [0, 1, 2, 3, 4, 5, 6, 7, 8]] [5, 8, 9] [9] (by kernel_rfl) (by kernel_rfl) rfl ?_
  show DK _ [0, 1, 2, 3, 4, 5, 6, 7, 8, 9] _ _ _
  refine .q rfl (op_move rfl) trivial ?_
  refine .q rfl (op_mulI rfl rfl ⟨by omega, by omega⟩) trivial ?_
  refine .q rfl (op_move rfl) trivial ?_
  refine .q rfl (op_mulI rfl rfl ⟨by omega, by omega⟩) trivial ?_
  refine .q rfl (op_addI rfl rfl ⟨by omega, by omega⟩) trivial ?_
  refine .q rfl (op_slice_arr Tryd.underlying22 inf5.sz rfl rfl (by first | omega | (simp only [AV.len]; omega)) (by decide) (bnd_some rfl (l := 4 * j) (by omega)) (bnd_some rfl (l := 4 * j + 4) (by omega)) (by first | omega | (simp only [AV.len]; omega)) (by first | omega | (simp only [AV.len]; omega))) trivial ?_
  refine .as (.sl 1024 (4 * j) 4 1) (slice_as2 (by omega) (by omega)) ?_
  refine .q rfl (op_move rfl) trivial ?_
  refine .q rfl (ap_idx_arr Tryd.underlying111 inf61.sz rfl rfl rfl (by omega)) trivial ?_
  refine .q rfl (op_load Tryd.underlying61 rfl rfl rfl rfl (by show j < (stlq st).length; omega)) trivial ?_
  refine .a rfl (op_call (U := [(1024, some ⟨.aggB (outN (stlq st) (j + 1)), 22, true⟩)]) [(500, 1024)] [] (hput_evq (outN (stlq st) j) (4 * j) 4 22 ((stlq st).getD j 0) (by rw [length_outN]; omega) (by decide)) Tryd.func65 (by kernel_rfl) rfl rfl rfl (⟨⟨_, rfl, rfl, rfl⟩, ⟨_, rfl, rfl, rfl⟩, trivial⟩) (⟨⟨_, _, rfl, rfl, rfl, rfl, id, rfl⟩, trivial⟩) (⟨⟨500, _, rfl, rfl, rfl, rfl, .inr ⟨rfl, _, rfl, rfl⟩⟩, trivial⟩) (⟨(fun _ => ⟨1024, _, rfl, rfl⟩), trivial⟩) rfl) trivial rfl rfl ?_
  refine .nil ?_
  show Ev _ _ _ _ _
  refine .region ?_
  refine .q (op_addI rfl rfl ⟨by omega, by omega⟩) trivial rfl ?_
  refine .q (op_move rfl) trivial rfl ?_
  refine .nil ?_
  exact ⟨⟨j + 1, by omega⟩, by show 8 - (j + 1) < 8 - j; omega, StLe.mk [(1000, 1000), (1008, 1008), (1024, 1024)] rfl rfl ⟨⟨_, rfl, by first | rfl | (simp only [AV.ren]; congr 1; omega), rfl⟩, ⟨_, rfl, by first | rfl | (simp only [AV.ren]; congr 1; omega), rfl⟩, ⟨_, rfl, by first | rfl | (simp only [AV.ren]; congr 1; omega), rfl⟩, ⟨_, rfl, by first | rfl | (simp only [AV.ren]; congr 1; omega), rfl⟩, trivial⟩ ⟨⟨_, _, rfl, rfl, by first | rfl | (simp only [AV.ren]; congr 1; omega), rfl, id, rfl⟩, ⟨_, _, rfl, rfl, by first | rfl | (simp only [AV.ren]; congr 1; omega), rfl, id, rfl⟩, ⟨_, _, rfl, rfl, by first | rfl | (simp only [AV.ren]; congr 1; omega), rfl, id, rfl⟩, trivial⟩⟩
 ·simp only [decide_eq_false_iff_not] at hc11
  refine .exit ?_
  show Ev _ _ _ _ _
  have ej : j = 8 := by omega
  refine Ev.weak (st2 := ⟨[(2, .ptr 1000 0), (3, .ptr 1008 0), (4, .ptr 1024 0), (10, .i64 (((8) : Nat) : Int))], [(1000, some ⟨.aggB (List.replicate 32 0), 22, true⟩), (1008, some ⟨.agg32 (stlq st), 111, true⟩), (1024, some ⟨.aggB (outN (stlq st) (8)), 22, true⟩)], 1032⟩) (StLe.mk [(1000, 1000), (1008, 1008), (1024, 1024)] rfl rfl ⟨⟨_, rfl, by first | (simp only [AV.ren]; done) | (simp only [AV.ren]; rw [ej]; done) | rfl, rfl⟩, ⟨_, rfl, by first | (simp only [AV.ren]; done) | (simp only [AV.ren]; rw [ej]; done) | rfl, rfl⟩, ⟨_, rfl, by first | (simp only [AV.ren]; done) | (simp only [AV.ren]; rw [ej]; done) | rfl, rfl⟩, ⟨_, rfl, by first | (simp only [AV.ren]; done) | (simp only [AV.ren]; rw [ej]; done) | rfl, rfl⟩, trivial⟩ ⟨⟨_, _, rfl, rfl, by first | (simp only [AV.ren]; done) | (simp only [AV.ren]; rw [ej]; done) | rfl, rfl, id, rfl⟩, ⟨_, _, rfl, rfl, by first | (simp only [AV.ren]; done) | (simp only [AV.ren]; rw [ej]; done) | rfl, rfl, id, rfl⟩, ⟨_, _, rfl, rfl, by first | (simp only [AV.ren]; done) | (simp only [AV.ren]; rw [ej]; done) | rfl, rfl, id, rfl⟩, trivial⟩) ?_
  refine .seq ?_
  refine .region ?_
  refine .q (op_loadRow Tryd.underlying22 rfl sz22 rfl rfl rfl (by show (outN (stlq st) 8).length = 32; exact length_outN (stlq st) 8)) trivial rfl ?_
  refine .as (.aggB (sha256 xs.flatten)) (congrArg AV.aggB (by rw [out_dig, ← hst]; exact sha_flat xs)) ?_
  refine .w (op_storeRow sz22 rfl rfl rfl rfl rfl (by first | rfl | exact length_sha256 _ | exact List.length_replicate) (by first | rfl | exact length_sha256 _ | exact List.length_replicate)) trivial rfl ?_
  refine .nil ?_
  show Ev _ _ _ _ _
  refine .ret ?_
  show RetOk _ _ _ _ _ _ _
  exact retc1 rfl (.inl rfl) ⟨_, _, _, _, rfl, rfl, rfl, rfl, (length_sha256 _), Tryd.underlying22, rfl, sz22⟩ trivial
end Go.Proofs.YtcnjekoidgefpaaDoor
