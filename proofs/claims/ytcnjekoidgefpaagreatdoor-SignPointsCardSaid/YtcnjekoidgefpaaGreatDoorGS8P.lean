/-
  Texts of this claim.
-/
import Derived.Test.YtcnjekoidgefpaaGreatDoorGS7P
import Derived.Test.YtcnjekoidgefpaaGreatDoorGSP
namespace Go.Proofs.YtcnjekoidgefpaaGreatDoor
open Go.RowKit
structure EI5 (T : List UInt8) (ys : List (List UInt8)) where
  j : Nat
  bl : List UInt8
  hj : j ≤ ys.length
  hb : EB 128 T bl (joinN ys j).length
structure EJ5 (T q : List UInt8) where
  r : List UInt8
  bl : List UInt8
  t : Nat
  hd : T.drop t = r ++ q
  hb : EB 128 T bl t
theorem eb_zero5 (T : List UInt8) : EB 128 T (List.replicate 128 0) 0 := ⟨by simp, Nat.zero_le _, by simp⟩
set_option maxHeartbeats 2000000 in
set_option maxRecDepth 100000 in
theorem each512_ev (s : St64) (xs : List (List UInt8)) (P T : List UInt8) (e e3 ek : Nat) (hP : (padBytes (padLen 128 (totN xs xs.length)) (totN xs xs.length)) = P) (hT : T = (xs ++ [P]).flatten) (ht : totN xs xs.length < 2 ^ 60) (hn5 : xs.length ≤ 100000) (hn6 : xs.length < 2 ^ 60) : Meets Tryz.prog 59 [.i64 128, .sl 500 0 xs.length 1, .clo 60 [.ptr 501 0]] [(500, some ⟨.aggS xs, e, false⟩), (501, some ⟨.agg64 (stl s), e3, true⟩), (1, some ⟨.agg64 K512, ek, false⟩)] (.tup []) [(501, some ⟨.agg64 (stl (blocks64 s T (T.length / 128))), e3, true⟩)] := by
 refine meets_of_ev (nt := 46) Tryz.func59 rfl rfl (Nat.le_of_ble_eq_true rfl) ?_
 refine .seq ?_
 refine .region ?_
 refine .q (op_move rfl) trivial rfl ?_
 refine .a (ap_make (n := 128) (c := .aggB (List.replicate 128 0)) Tryz.underlying25 inf5 rfl rfl rfl rfl (by first | omega | (simp only [AV.len]; omega) | (simp only [AV.len, List.length_set]; omega) | assumption | (simp [AV.len]; done)) (rel_zero5) rfl (rfl)) trivial rfl ?_
 refine .q (op_assign rfl) trivial rfl ?_
 refine .nil ?_
 show Ev _ _ _ _ _
 refine .seq ?_
 refine .region ?_
 refine .q (op_assign rfl) trivial rfl ?_
 refine .nil ?_
 show Ev _ _ _ _ _
 refine .seq ?_
 refine .region ?_
 refine .q (op_move rfl) trivial rfl ?_
 refine .q (op_move rfl) trivial rfl ?_
 refine .q (op_move rfl) trivial rfl ?_
 refine .q (op_call (U := []) [(500, 500)] [] (pad512_ev xs xs.length e rfl ht hn6) Tryz.func104 (by kernel_rfl) rfl rfl rfl (⟨⟨_, rfl, rfl, rfl⟩, ⟨_, rfl, rfl, rfl⟩, trivial⟩) (⟨⟨_, _, rfl, rfl, rfl, rfl, (fun h => by cases h), rfl⟩, trivial⟩) (trivial) (⟨(fun h => by cases h), trivial⟩) rfl) trivial rfl ?_
 refine .as (.str P) (congrArg AV.str hP) ?_
 refine .a (ap_build (us := [_]) (c := .aggS [_]) Tryz.underlying85 inf9 rfl (by decide) (by decide) ⟨rfl, rfl, rfl, trivial⟩ rfl) trivial rfl ?_
 refine .a (ap_build (us := [_, _]) (c := .agg [_, _]) Tryz.underlying132 inf85 rfl (by decide) (by decide) ⟨rfl, rfl, rfl, rfl, rfl, rfl, trivial⟩ rfl) trivial rfl ?_
 refine .a (op_call (U := [(1024, some ⟨.aggS (xs ++ [P]), 9, true⟩)]) [(500, 1016), (501, 500), (502, 1008)] [(1024, 1000)] (concat_ev xs [P] 85 e 9 (by simp) hn5 (by simp)) Tryz.func103 (by kernel_rfl) rfl rfl rfl (⟨⟨_, rfl, rfl, rfl⟩, trivial⟩) (⟨⟨_, _, rfl, rfl, rfl, rfl, (fun h => by cases h), rfl⟩, ⟨_, _, rfl, rfl, rfl, rfl, (fun h => by cases h), rfl⟩, ⟨_, _, rfl, rfl, rfl, rfl, (fun h => by cases h), rfl⟩, trivial⟩) (⟨⟨1000, _, rfl, rfl, rfl, rfl, .inl rfl⟩, trivial⟩) (⟨(fun h => by cases h), (fun h => by cases h), (fun h => by cases h), trivial⟩) rfl) trivial rfl ?_
 refine .as (.sl 1024 0 (xs.length + 1) 1) rfl ?_
 refine .q (op_len_sl Tryz.underlying85 rfl) trivial rfl ?_
 refine .q (op_move rfl) trivial rfl ?_
 refine .nil ?_
 show Ev _ _ _ _ _
 refine .block ?_
 refine Ev.loop (ι := EI5 T (xs ++ [P])) (fun q => ⟨[(0, .i64 128), (2, .clo 60 [.ptr 501 0]), (6, .sl 1000 0 128 1), (7, .i64 ((((joinN (xs ++ [P]) q.j).length) % 128 : Nat) : Int)), (19, .sl 1024 0 (xs.length + 1) 1), (20, .i64 ((xs.length + 1 : Nat) : Int)), (21, .i64 ((q.j : Nat) : Int))], [(1000, some ⟨.aggB q.bl, 5, true⟩), (1024, some ⟨.aggS (xs ++ [P]), 9, true⟩), (501, some ⟨.agg64 (stl (blocks64 s T (((joinN (xs ++ [P]) q.j).length) / 128))), e3, true⟩), (1, some ⟨.agg64 K512, ek, false⟩)], 1032⟩) (fun q => xs.length + 1 - q.j) ⟨0, List.replicate 128 0, Nat.zero_le _, eb_zero5 T⟩ (StLe.mk [(1000, 1000), (1024, 1024)] rfl rfl ⟨⟨_, rfl, by first | rfl | (simp only [AV.ren]; rfl) | (simp only [AV.ren]; congr 1; omega), rfl⟩, ⟨_, rfl, by first | rfl | (simp only [AV.ren]; rfl) | (simp only [AV.ren]; congr 1; omega), rfl⟩, ⟨_, rfl, by first | rfl | (simp only [AV.ren]; rfl) | (simp only [AV.ren]; congr 1; omega), rfl⟩, ⟨_, rfl, by (simp only [AV.ren, joinN, List.take_zero, List.flatten_nil, List.length_nil, Nat.zero_mod]; rfl), rfl⟩, ⟨_, rfl, by first | rfl | (simp only [AV.ren]; rfl) | (simp only [AV.ren]; congr 1; omega), rfl⟩, ⟨_, rfl, by first | rfl | (simp only [AV.ren]; rfl) | (simp only [AV.ren]; congr 1; omega), rfl⟩, ⟨_, rfl, by first | rfl | (simp only [AV.ren]; rfl) | (simp only [AV.ren]; congr 1; omega), rfl⟩, trivial⟩ ⟨⟨_, _, rfl, rfl, rfl, rfl, id, rfl⟩, ⟨_, _, rfl, rfl, rfl, rfl, id, rfl⟩, ⟨_, _, rfl, rfl, by (simp only [AV.ren, joinN, List.take_zero, List.flatten_nil, List.length_nil, Nat.zero_div, blocks64]), rfl, id, rfl⟩, ⟨_, _, rfl, rfl, rfl, rfl, id, rfl⟩, trivial⟩) ?_
 rintro ⟨j, bl, hj, hb⟩
 try dsimp only
 have hjl : j ≤ xs.length + 1 := by simpa using hj
 try simp only at hb
 refine .seq ?_
 refine .region ?_
 refine .q (op_cmpI rfl rfl rfl) trivial rfl ?_
 refine .nil ?_
 show Ev _ _ _ _ _
 refine .seq ?_
 refine .cond rfl (fun hc22 => ?_) (fun hc22 => ?_)
 ·simp only [decide_eq_true_eq] at hc22
  refine .skip ?_
  show Ev _ _ _ _ _
  refine .seq ?_
  refine .block ?_
  refine .seq ?_
  refine .region ?_
  have hj2 : j < (xs ++ [P]).length := by simp; omega
  refine .q (ap_idx0 Tryz.underlying85 inf9.sz rfl rfl rfl (by omega)) trivial rfl ?_
  refine .q (op_load Tryz.underlying9 rfl rfl rfl rfl (by simp only [AV.len, List.length_append, List.length_singleton]; omega)) trivial rfl ?_
  refine .q (op_assign rfl) trivial rfl ?_
  refine .nil ?_
  show Ev _ _ _ _ _
  refine .block ?_
  refine Ev.loop (ι := EJ5 T (((xs ++ [P]).drop (j + 1)).flatten)) (fun q => ⟨[(0, .i64 128), (2, .clo 60 [.ptr 501 0]), (6, .sl 1000 0 128 1), (7, .i64 (((q.t) % 128 : Nat) : Int)), (19, .sl 1024 0 (xs.length + 1) 1), (20, .i64 ((xs.length + 1 : Nat) : Int)), (21, .i64 ((j : Nat) : Int)), (9, .str q.r)], [(1000, some ⟨.aggB q.bl, 5, true⟩), (1024, some ⟨.aggS (xs ++ [P]), 9, true⟩), (501, some ⟨.agg64 (stl (blocks64 s T ((q.t) / 128))), e3, true⟩), (1, some ⟨.agg64 K512, ek, false⟩)], 1032⟩) (fun q => q.r.length) ⟨(xs ++ [P]).getD j [], bl, (joinN (xs ++ [P]) j).length, (by rw [hT]; exact drop_join _ j hj2), hb⟩ (StLe.mk [(1000, 1000), (1024, 1024)] rfl rfl ⟨⟨_, rfl, by first | rfl | (simp only [AV.ren]; rfl) | (simp only [AV.ren]; congr 1; omega), rfl⟩, ⟨_, rfl, by first | rfl | (simp only [AV.ren]; rfl) | (simp only [AV.ren]; congr 1; omega), rfl⟩, ⟨_, rfl, by first | rfl | (simp only [AV.ren]; rfl) | (simp only [AV.ren]; congr 1; omega), rfl⟩, ⟨_, rfl, by first | rfl | (simp only [AV.ren]; rfl) | (simp only [AV.ren]; congr 1; omega), rfl⟩, ⟨_, rfl, by first | rfl | (simp only [AV.ren]; rfl) | (simp only [AV.ren]; congr 1; omega), rfl⟩, ⟨_, rfl, by first | rfl | (simp only [AV.ren]; rfl) | (simp only [AV.ren]; congr 1; omega), rfl⟩, ⟨_, rfl, by first | rfl | (simp only [AV.ren]; rfl) | (simp only [AV.ren]; congr 1; omega), rfl⟩, ⟨_, rfl, by first | rfl | (simp only [AV.ren, List.getD_eq_getElem?_getD]), rfl⟩, trivial⟩ ⟨⟨_, _, rfl, rfl, rfl, rfl, id, rfl⟩, ⟨_, _, rfl, rfl, rfl, rfl, id, rfl⟩, ⟨_, _, rfl, rfl, rfl, rfl, id, rfl⟩, ⟨_, _, rfl, rfl, rfl, rfl, id, rfl⟩, trivial⟩) ?_
  rintro ⟨r, bl2, t, hd, hb2⟩
  try dsimp only
  obtain ⟨n, hnm⟩ : ∃ n, n = min (128 - t % 128) r.length := ⟨_, rfl⟩
  have hn1 : n ≤ r.length := by omega
  have hlb : bl2.length = 128 := hb2.len
  have hm64 : t % 128 < 128 := Nat.mod_lt _ (by decide)
  have hn2 : t % 128 + n ≤ bl2.length := by omega
  have hlc : (cpB bl2 (t % 128) r n).length = 128 := by rw [length_cpB _ _ _ _ hn1 hn2]; exact hlb
  refine .seq ?_
  refine .seq ?_
  refine .region ?_
  refine .q (op_move rfl) trivial rfl ?_
  refine .q (op_len_str Tryz.underlying9 rfl) trivial rfl ?_
  refine .q (op_cmpI rfl rfl rfl) trivial rfl ?_
  refine .nil ?_
  show Ev _ _ _ _ _
  refine .cond rfl (fun hc27 => ?_) (fun hc27 => ?_)
  ·simp only [decide_eq_true_eq] at hc27
   refine .skip ?_
   show Ev _ _ _ _ _
   refine .block ?_
   refine .seq ?_
   refine .region ?_
   refine .q (op_move rfl) trivial rfl ?_
   refine .q (op_move rfl) trivial rfl ?_
   refine .q (op_slice_sl Tryz.underlying25 inf5.sz rfl (bnd_some rfl (l := t % 128) rfl) rfl (by first | omega | (simp only [AV.len]; omega)) (by first | omega | (simp only [AV.len]; omega))) trivial rfl ?_
   refine .q (op_move rfl) trivial rfl ?_
   refine .a (op_copy (q := n) (c' := .aggB (cpB bl2 (t % 128) r n)) Tryz.underlying25 inf5.sz rfl rfl rfl (srcs_str rfl) (by first | omega | (simp only [AV.len]; omega)) (by first | omega | (simp only []; omega)) (by first | exact copy_list _ _ _ _ hn1 hn2 | (simp [AV.list, AV.parts, cpB, List.map_append, List.map_take, List.map_drop]; done))) trivial rfl ?_
   refine .q (op_assign rfl) trivial rfl ?_
   refine .nil ?_
   show Ev _ _ _ _ _
   refine .seq ?_
   refine .region ?_
   refine .q (op_move rfl) trivial rfl ?_
   refine .q (op_move rfl) trivial rfl ?_
   refine .q (ap_slice_str_lo Tryz.underlying9 rfl (bnd_some rfl (l := n) rfl) (by omega)) trivial rfl ?_
   refine .q (op_assign rfl) trivial rfl ?_
   refine .nil ?_
   show Ev _ _ _ _ _
   refine .seq ?_
   refine .region ?_
   refine .q (op_move rfl) trivial rfl ?_
   refine .q (op_move rfl) trivial rfl ?_
   refine .q (op_addI rfl rfl ⟨by omega, by omega⟩) trivial rfl ?_
   refine .as (.i64 ((t % 128 + n : Nat) : Int)) (congrArg AV.i64 (by omega)) ?_
   refine .q (op_assign rfl) trivial rfl ?_
   refine .nil ?_
   show Ev _ _ _ _ _
   refine .seq ?_
   refine .region ?_
   refine .q (op_move rfl) trivial rfl ?_
   refine .q (op_move rfl) trivial rfl ?_
   refine .q (op_cmpI rfl rfl rfl) trivial rfl ?_
   refine .nil ?_
   show Ev _ _ _ _ _
   refine .cond rfl (fun hc41 => ?_) (fun hc41 => ?_)
   ·simp only [beq_iff_eq] at hc41
    refine .seq ?_
    refine .region ?_
    have hf4 := EB.full hb2 (by decide) hd hn1 (by omega)
    have hb3 := hf4.1
    have e7 : AV.i64 0 = AV.i64 (((t + n) % 128 : Nat) : Int) := by rw [hf4.2.2.2]; rfl
    have e5 : AV.agg64 (stl (comp64 (blocks64 s T (t / 128)) (cpB bl2 (t % 128) r n))) = AV.agg64 (stl (blocks64 s T ((t + n) / 128))) := by rw [hf4.2.2.1, hf4.2.1]; rfl
    refine .q (op_move rfl) trivial rfl ?_
    refine .q (op_move rfl) trivial rfl ?_
    refine .a (op_callClo (args := [.sl 500 0 128 1]) (args2 := [.ptr 501 0]) (U := [(501, some ⟨.agg64 (stl (comp64 (blocks64 s T (t / 128)) (cpB bl2 (t % 128) r n))), e3, true⟩)]) [(500, 1000), (501, 501)] [] (clo512_ev (blocks64 s T (t / 128)) (cpB bl2 (t % 128) r n) ek 5 e3 hlc) Tryz.func60 (by kernel_rfl) rfl rfl rfl rfl rfl rfl ⟨⟨_, rfl, rfl, rfl⟩, trivial⟩ ⟨⟨_, _, rfl, rfl, rfl, rfl, (fun h => by cases h), rfl⟩, ⟨_, _, rfl, rfl, rfl, rfl, id, rfl⟩, ⟨_, _, rfl, rfl, rfl, rfl, (fun h => by cases h), rfl⟩, trivial⟩ ⟨⟨501, _, rfl, rfl, rfl, rfl, .inr ⟨rfl, _, rfl, rfl⟩⟩, trivial⟩ ⟨(fun h => by cases h), (fun _ => ⟨501, _, rfl, rfl⟩), (fun h => by cases h), trivial⟩ rfl) trivial rfl ?_
    refine .nil ?_
    show Ev _ _ _ _ _
    refine .region ?_
    refine .q (op_assign rfl) trivial rfl ?_
    refine .nil ?_
    exact ⟨⟨r.drop n, cpB bl2 (t % 128) r n, t + n, drop_next hd hn1, hb3⟩, by (try dsimp only); simp only [List.length_drop]; omega, StLe.mk [(1000, 1000), (1024, 1024)] rfl rfl ⟨⟨_, rfl, by first | rfl | (simp only [AV.ren]; rfl) | (simp only [AV.ren]; congr 1; omega), rfl⟩, ⟨_, rfl, by first | rfl | (simp only [AV.ren]; rfl) | (simp only [AV.ren]; congr 1; omega), rfl⟩, ⟨_, rfl, by first | rfl | (simp only [AV.ren]; rfl) | (simp only [AV.ren]; congr 1; omega), rfl⟩, ⟨_, rfl, by first | exact e7 | (simp only [AV.ren]; exact e7), rfl⟩, ⟨_, rfl, by first | rfl | (simp only [AV.ren]; rfl) | (simp only [AV.ren]; congr 1; omega), rfl⟩, ⟨_, rfl, by first | rfl | (simp only [AV.ren]; rfl) | (simp only [AV.ren]; congr 1; omega), rfl⟩, ⟨_, rfl, by first | rfl | (simp only [AV.ren]; rfl) | (simp only [AV.ren]; congr 1; omega), rfl⟩, ⟨_, rfl, by first | rfl | (simp only [AV.ren]; rfl), rfl⟩, trivial⟩ ⟨⟨_, _, rfl, rfl, rfl, rfl, id, rfl⟩, ⟨_, _, rfl, rfl, rfl, rfl, id, rfl⟩, ⟨_, _, rfl, rfl, (by first | exact e5 | (simp only [AV.ren]; exact e5) | rfl), rfl, id, rfl⟩, ⟨_, _, rfl, rfl, rfl, rfl, id, rfl⟩, trivial⟩⟩
   ·simp only [ne_eq, beq_eq_false_iff_ne] at hc41
    have hu9 : t % 128 + n < 128 := by omega
    have hb3 := EB.part hb2 (by decide) hd hn1 hu9
    have e7 : AV.i64 ((t % 128 + n : Nat) : Int) = AV.i64 (((t + n) % 128 : Nat) : Int) := congrArg AV.i64 (by omega)
    have e5 : AV.agg64 (stl (blocks64 s T (t / 128))) = AV.agg64 (stl (blocks64 s T ((t + n) / 128))) := by rw [show (t + n) / 128 = t / 128 by omega]
    refine .skip ?_
    exact ⟨⟨r.drop n, cpB bl2 (t % 128) r n, t + n, drop_next hd hn1, hb3⟩, by (try dsimp only); simp only [List.length_drop]; omega, StLe.mk [(1000, 1000), (1024, 1024)] rfl rfl ⟨⟨_, rfl, by first | rfl | (simp only [AV.ren]; rfl) | (simp only [AV.ren]; congr 1; omega), rfl⟩, ⟨_, rfl, by first | rfl | (simp only [AV.ren]; rfl) | (simp only [AV.ren]; congr 1; omega), rfl⟩, ⟨_, rfl, by first | rfl | (simp only [AV.ren]; rfl) | (simp only [AV.ren]; congr 1; omega), rfl⟩, ⟨_, rfl, by first | exact e7 | (simp only [AV.ren]; exact e7), rfl⟩, ⟨_, rfl, by first | rfl | (simp only [AV.ren]; rfl) | (simp only [AV.ren]; congr 1; omega), rfl⟩, ⟨_, rfl, by first | rfl | (simp only [AV.ren]; rfl) | (simp only [AV.ren]; congr 1; omega), rfl⟩, ⟨_, rfl, by first | rfl | (simp only [AV.ren]; rfl) | (simp only [AV.ren]; congr 1; omega), rfl⟩, ⟨_, rfl, by first | rfl | (simp only [AV.ren]; rfl), rfl⟩, trivial⟩ ⟨⟨_, _, rfl, rfl, rfl, rfl, id, rfl⟩, ⟨_, _, rfl, rfl, rfl, rfl, id, rfl⟩, ⟨_, _, rfl, rfl, (by first | exact e5 | (simp only [AV.ren]; exact e5) | rfl), rfl, id, rfl⟩, ⟨_, _, rfl, rfl, rfl, rfl, id, rfl⟩, trivial⟩⟩
  ·simp only [decide_eq_false_iff_not] at hc27
   refine .exit ?_
   show Ev _ _ _ _ _
   have hr0 : r = [] := List.eq_nil_of_length_eq_zero (by omega)
   have hte : t = (joinN (xs ++ [P]) (j + 1)).length := ej_end hT hj2 rfl (by rw [hd, hr0]; rfl) hb2.le
   refine Ev.weak (st2 := ⟨[(0, .i64 128), (2, .clo 60 [.ptr 501 0]), (6, .sl 1000 0 128 1), (7, .i64 ((((joinN (xs ++ [P]) (j + 1)).length) % 128 : Nat) : Int)), (19, .sl 1024 0 (xs.length + 1) 1), (20, .i64 ((xs.length + 1 : Nat) : Int)), (21, .i64 ((j : Nat) : Int))], [(1000, some ⟨.aggB bl2, 5, true⟩), (1024, some ⟨.aggS (xs ++ [P]), 9, true⟩), (501, some ⟨.agg64 (stl (blocks64 s T (((joinN (xs ++ [P]) (j + 1)).length) / 128))), e3, true⟩), (1, some ⟨.agg64 K512, ek, false⟩)], 1032⟩) (StLe.mk [(1000, 1000), (1024, 1024)] rfl rfl ⟨⟨_, rfl, by first | rfl | (simp only [AV.ren]; rw [hte]), rfl⟩, ⟨_, rfl, by first | rfl | (simp only [AV.ren]; rw [hte]), rfl⟩, ⟨_, rfl, by first | rfl | (simp only [AV.ren]; rw [hte]), rfl⟩, ⟨_, rfl, by first | rfl | (simp only [AV.ren]; rw [hte]), rfl⟩, ⟨_, rfl, by first | rfl | (simp only [AV.ren]; rw [hte]), rfl⟩, ⟨_, rfl, by first | rfl | (simp only [AV.ren]; rw [hte]), rfl⟩, ⟨_, rfl, by first | rfl | (simp only [AV.ren]; rw [hte]), rfl⟩, trivial⟩ ⟨⟨_, _, rfl, rfl, by first | rfl | (rw [hte]; rfl) | (rw [hte]), rfl, id, rfl⟩, ⟨_, _, rfl, rfl, by first | rfl | (rw [hte]; rfl) | (rw [hte]), rfl, id, rfl⟩, ⟨_, _, rfl, rfl, by first | rfl | (rw [hte]; rfl) | (rw [hte]), rfl, id, rfl⟩, ⟨_, _, rfl, rfl, by first | rfl | (rw [hte]; rfl) | (rw [hte]), rfl, id, rfl⟩, trivial⟩) ?_
   show Ev _ _ _ _ _
   refine .region ?_
   refine .q (op_addI rfl rfl ⟨by omega, by omega⟩) trivial rfl ?_
   refine .q (op_move rfl) trivial rfl ?_
   refine .nil ?_
   exact ⟨⟨j + 1, bl2, by simp; omega, hte ▸ hb2⟩, by (try dsimp only); omega, StLe.mk [(1000, 1000), (1024, 1024)] rfl rfl ⟨⟨_, rfl, by first | rfl | (simp only [AV.ren]; rfl) | (simp only [AV.ren]; congr 1; omega), rfl⟩, ⟨_, rfl, by first | rfl | (simp only [AV.ren]; rfl) | (simp only [AV.ren]; congr 1; omega), rfl⟩, ⟨_, rfl, by first | rfl | (simp only [AV.ren]; rfl) | (simp only [AV.ren]; congr 1; omega), rfl⟩, ⟨_, rfl, by first | rfl | (simp only [AV.ren]; rfl) | (simp only [AV.ren]; congr 1; omega), rfl⟩, ⟨_, rfl, by first | rfl | (simp only [AV.ren]; rfl) | (simp only [AV.ren]; congr 1; omega), rfl⟩, ⟨_, rfl, by first | rfl | (simp only [AV.ren]; rfl) | (simp only [AV.ren]; congr 1; omega), rfl⟩, ⟨_, rfl, by first | rfl | (simp only [AV.ren]; rfl) | (simp only [AV.ren]; congr 1; omega), rfl⟩, trivial⟩ ⟨⟨_, _, rfl, rfl, rfl, rfl, id, rfl⟩, ⟨_, _, rfl, rfl, rfl, rfl, id, rfl⟩, ⟨_, _, rfl, rfl, rfl, rfl, id, rfl⟩, ⟨_, _, rfl, rfl, rfl, rfl, id, rfl⟩, trivial⟩⟩
 ·simp only [decide_eq_false_iff_not] at hc22
  refine .exit ?_
  show RetOk _ _ _ _ _ _ _
  have hje : j = xs.length + 1 := by omega
  have hjT : joinN (xs ++ [P]) (xs.length + 1) = T := by rw [hT, ← joinN_all]; simp
  have hX : stl (blocks64 s T ((joinN (xs ++ [P]) j).length / 128)) = stl (blocks64 s T (T.length / 128)) := by rw [hje, hjT]
  exact ret0 rfl (.inr rfl) ⟨by rw [← hX]; rfl, trivial⟩
end Go.Proofs.YtcnjekoidgefpaaGreatDoor
namespace Go.Proofs.YtcnjekoidgefpaaGreatDoor
open Go.RowKit
def outN5 (h : List UInt64) : Nat → List UInt8
  | 0 => List.replicate 64 0
  | j + 1 => pbN (outN5 h j) (8 * j) 8 (h.getD j 0) 8
theorem length_outN5 (h : List UInt64) (j : Nat) : (outN5 h j).length = 64 := by
  induction j with
  | zero => rfl
  | succ j ih => rw [outN5, length_pbN]; exact ih
theorem rep64 : List.replicate 64 (0 : UInt8) = [0, 0, 0, 0, 0, 0, 0, 0, 0, 0, 0, 0, 0, 0, 0, 0, 0, 0, 0, 0, 0, 0, 0, 0, 0, 0, 0, 0, 0, 0, 0, 0, 0, 0, 0, 0, 0, 0, 0, 0, 0, 0, 0, 0, 0, 0, 0, 0, 0, 0, 0, 0, 0, 0, 0, 0, 0, 0, 0, 0, 0, 0, 0, 0] := rfl
theorem out_dig5 (s : St64) : outN5 (stl s) 8 = digest64 s := by
  simp only [outN5, pbN, stl, List.getD_cons_zero, List.getD_cons_succ, rep64, List.set_cons_zero, List.set_cons_succ, Nat.reduceMul, Nat.reduceAdd, Nat.reduceSub]
  rfl
theorem sha_flat5 (xs : List (List UInt8)) : digest64 (blocks64 init64 (xs ++ [padBytes (padLen 128 (totN xs xs.length)) (totN xs xs.length)]).flatten ((xs ++ [padBytes (padLen 128 (totN xs xs.length)) (totN xs xs.length)]).flatten.length / 128)) = sha512 xs.flatten := by
  rw [totN_flat, List.flatten_append, List.flatten_cons, List.flatten_nil, List.append_nil]; rfl
set_option maxHeartbeats 1000000 in
set_option maxRecDepth 100000 in
theorem sum512_ev (xs : List (List UInt8)) (e ek : Nat) (ht : totN xs xs.length < 2 ^ 60) (hn5 : xs.length ≤ 100000) : Meets Tryz.prog 26 [.sl 500 0 xs.length 1] [(500, some ⟨.aggS xs, e, false⟩), (1, some ⟨.agg64 K512, ek, false⟩)] (.aggB (sha512 xs.flatten)) [] := by
 obtain ⟨st, hst⟩ : ∃ st, (blocks64 init64 ((xs ++ [(padBytes (padLen 128 (totN xs xs.length)) (totN xs xs.length))]).flatten) (((xs ++ [(padBytes (padLen 128 (totN xs xs.length)) (totN xs xs.length))]).flatten).length / 128)) = st := ⟨_, rfl⟩
 have hcall := each512_ev init64 xs (padBytes (padLen 128 (totN xs xs.length)) (totN xs xs.length)) ((xs ++ [(padBytes (padLen 128 (totN xs xs.length)) (totN xs xs.length))]).flatten) e 86 ek rfl rfl ht hn5 (by omega)
 rw [hst] at hcall
 refine meets_of_ev (nt := 25) Tryz.func26 rfl rfl (Nat.le_of_ble_eq_true rfl) ?_
 refine .seq ?_
 refine .region ?_
 refine .a (op_allocRow zero29 rel_zero29 rfl) trivial rfl ?_
 refine .nil ?_
 show Ev _ _ _ _ _
 refine .seq ?_
 refine .region ?_
 refine .q (op_buildArr (us := [(0, _), (1, _), (2, _), (3, _), (4, _), (5, _), (6, _), (7, _)]) Tryz.underlying86 inf52.sz zero86 rel_zero86 rfl (by decide) ⟨rfl, rfl, rfl, rfl, rfl, rfl, rfl, rfl, rfl, rfl, rfl, rfl, rfl, rfl, rfl, rfl, rfl, rfl, rfl, rfl, rfl, rfl, rfl, rfl, trivial⟩ rfl) trivial rfl ?_
 refine .as (.agg64 (stl init64)) rfl ?_
 refine .a (op_allocRow zero86 rel_zero86 rfl) trivial rfl ?_
 refine .w (op_storeRow sz86 rfl rfl rfl rfl rfl (by first | decide | exact Nat.le_of_ble_eq_true rfl) (by first | decide | exact Nat.le_of_ble_eq_true rfl)) trivial rfl ?_
 refine .nil ?_
 show Ev _ _ _ _ _
 refine .seq ?_
 refine .region ?_
 refine .q (op_move rfl) trivial rfl ?_
 refine .q (op_makeFunc1 rfl) trivial rfl ?_
 refine .as (.clo 60 [.ptr 1008 0]) rfl ?_
 refine .a (op_call (U := [(1008, some ⟨.agg64 (stl st), 86, true⟩)]) [(500, 500), (501, 1008)] [] (hcall) Tryz.func59 (by kernel_rfl) rfl rfl rfl (⟨⟨_, rfl, rfl, rfl⟩, ⟨_, rfl, rfl, rfl⟩, ⟨_, rfl, rfl, rfl⟩, trivial⟩) (⟨⟨_, _, rfl, rfl, rfl, rfl, (fun h => by cases h), rfl⟩, ⟨_, _, rfl, rfl, rfl, rfl, id, rfl⟩, ⟨_, _, rfl, rfl, rfl, rfl, (fun h => by cases h), rfl⟩, trivial⟩) (⟨⟨501, _, rfl, rfl, rfl, rfl, .inr ⟨rfl, _, rfl, rfl⟩⟩, trivial⟩) (⟨(fun h => by cases h), (fun _ => ⟨1008, _, rfl, rfl⟩), (fun h => by cases h), trivial⟩) rfl) trivial rfl ?_
 refine .nil ?_
 show Ev _ _ _ _ _
 refine .seq ?_
 refine .region ?_
 refine .a (op_allocRow zero29 rel_zero29 rfl) trivial rfl ?_
 refine .nil ?_
 show Ev _ _ _ _ _
 refine .seq ?_
 refine .seq ?_
 refine .region ?_
 refine .q (op_move rfl) trivial rfl ?_
 refine .nil ?_
 show Ev _ _ _ _ _
 refine .block ?_
 refine Ev.loop (ι := { j : Nat // j ≤ 8 }) (fun j => ⟨[(2, .ptr 1000 0), (3, .ptr 1008 0), (4, .ptr 1024 0), (10, .i64 ((j.1 : Nat) : Int))], [(1000, some ⟨.aggB (List.replicate 64 0), 29, true⟩), (1008, some ⟨.agg64 (stl st), 86, true⟩), (1024, some ⟨.aggB (outN5 (stl st) j.1), 29, true⟩)], 1032⟩) (fun j => 8 - j.1) ⟨0, Nat.zero_le _⟩ (StLe.mk [(1000, 1000), (1008, 1008), (1024, 1024)] rfl rfl ⟨⟨_, rfl, by first | rfl | (simp only [AV.ren]; congr 1; omega), rfl⟩, ⟨_, rfl, by first | rfl | (simp only [AV.ren]; congr 1; omega), rfl⟩, ⟨_, rfl, by first | rfl | (simp only [AV.ren]; congr 1; omega), rfl⟩, ⟨_, rfl, by first | rfl | (simp only [AV.ren]; congr 1; omega), rfl⟩, trivial⟩ ⟨⟨_, _, rfl, rfl, by first | rfl | (simp only [AV.ren]; congr 1; omega), rfl, id, rfl⟩, ⟨_, _, rfl, rfl, by first | rfl | (simp only [AV.ren]; congr 1; omega), rfl, id, rfl⟩, ⟨_, _, rfl, rfl, by first | rfl | (simp only [AV.ren]; congr 1; omega), rfl, id, rfl⟩, trivial⟩) ?_
 rintro ⟨j, hj⟩
 dsimp only
 have hlo := length_outN5 (stl st) j
 have hls : (stl st).length = 8 := rfl
 refine .seq ?_
 refine .region ?_
 refine .q (op_cmpI rfl rfl rfl) trivial rfl ?_
 refine .nil ?_
 show Ev _ _ _ _ _
 refine .seq ?_
 refine .cond rfl (fun hc11 => ?_) (fun hc11 => ?_)
 ·simp only [decide_eq_true_eq] at hc11
  refine .skip ?_
  show Ev _ _ _ _ _
  refine .seq ?_
  refine .block ?_
  refine .seq ?_
  refine .region ?_
  refine .q (op_move rfl) trivial rfl ?_
  refine .q (op_assign rfl) trivial rfl ?_
  refine .nil ?_
  show Ev _ _ _ _ _
  refine .drawn [[], [0], [], [2], [2, 3], [0, 1, 2, 3, 4], [], [6], [6, 7], [0, 1, 2, 3, 4, 5, 6, 7, 8]] [5, 8, 9] [9] (by kernel_rfl) (by kernel_rfl) rfl ?_
  show DK _ [0, 1, 2, 3, 4, 5, 6, 7, 8, 9] _ _ _
  refine .q rfl (op_move rfl) trivial ?_
  refine .q rfl (op_mulI rfl rfl ⟨by omega, by omega⟩) trivial ?_
  refine .q rfl (op_move rfl) trivial ?_
  refine .q rfl (op_mulI rfl rfl ⟨by omega, by omega⟩) trivial ?_
  refine .q rfl (op_addI rfl rfl ⟨by omega, by omega⟩) trivial ?_
  refine .q rfl (op_slice_arr Tryz.underlying29 inf5.sz rfl rfl (by first | omega | (simp only [AV.len]; omega)) (by decide) (bnd_some rfl (l := 8 * j) (by omega)) (bnd_some rfl (l := 8 * j + 8) (by omega)) (by first | omega | (simp only [AV.len]; omega)) (by first | omega | (simp only [AV.len]; omega))) trivial ?_
  refine .as (.sl 1024 (8 * j) 8 1) (slice_as2 (by omega) (by omega)) ?_
  refine .q rfl (op_move rfl) trivial ?_
  refine .q rfl (ap_idx_arr Tryz.underlying86 inf52.sz rfl rfl rfl (by omega)) trivial ?_
  refine .q rfl (op_load Tryz.underlying52 rfl rfl rfl rfl (by show j < (stl st).length; omega)) trivial ?_
  refine .a rfl (op_call (U := [(1024, some ⟨.aggB (outN5 (stl st) (j + 1)), 29, true⟩)]) [(500, 1024)] [] (hput_ev (outN5 (stl st) j) (8 * j) 8 29 ((stl st).getD j 0) (by rw [length_outN5]; omega) (by decide)) Tryz.func62 (by kernel_rfl) rfl rfl rfl (⟨⟨_, rfl, rfl, rfl⟩, ⟨_, rfl, rfl, rfl⟩, trivial⟩) (⟨⟨_, _, rfl, rfl, rfl, rfl, id, rfl⟩, trivial⟩) (⟨⟨500, _, rfl, rfl, rfl, rfl, .inr ⟨rfl, _, rfl, rfl⟩⟩, trivial⟩) (⟨(fun _ => ⟨1024, _, rfl, rfl⟩), trivial⟩) rfl) trivial rfl rfl ?_
  refine .nil ?_
  show Ev _ _ _ _ _
  refine .region ?_
  refine .q (op_addI rfl rfl ⟨by omega, by omega⟩) trivial rfl ?_
  refine .q (op_move rfl) trivial rfl ?_
  refine .nil ?_
  exact ⟨⟨j + 1, by omega⟩, by show 8 - (j + 1) < 8 - j; omega, StLe.mk [(1000, 1000), (1008, 1008), (1024, 1024)] rfl rfl ⟨⟨_, rfl, by first | rfl | (simp only [AV.ren]; congr 1; omega), rfl⟩, ⟨_, rfl, by first | rfl | (simp only [AV.ren]; congr 1; omega), rfl⟩, ⟨_, rfl, by first | rfl | (simp only [AV.ren]; congr 1; omega), rfl⟩, ⟨_, rfl, by first | rfl | (simp only [AV.ren]; congr 1; omega), rfl⟩, trivial⟩ ⟨⟨_, _, rfl, rfl, by first | rfl | (simp only [AV.ren]; congr 1; omega), rfl, id, rfl⟩, ⟨_, _, rfl, rfl, by first | rfl | (simp only [AV.ren]; congr 1; omega), rfl, id, rfl⟩, ⟨_, _, rfl, rfl, by first | rfl | (simp only [AV.ren]; congr 1; omega), rfl, id, rfl⟩, trivial⟩⟩
 ·simp only [decide_eq_false_iff_not] at hc11
  refine .exit ?_
  show Ev _ _ _ _ _
  have ej : j = 8 := by omega
  refine Ev.weak (st2 := ⟨[(2, .ptr 1000 0), (3, .ptr 1008 0), (4, .ptr 1024 0), (10, .i64 (((8) : Nat) : Int))], [(1000, some ⟨.aggB (List.replicate 64 0), 29, true⟩), (1008, some ⟨.agg64 (stl st), 86, true⟩), (1024, some ⟨.aggB (outN5 (stl st) (8)), 29, true⟩)], 1032⟩) (StLe.mk [(1000, 1000), (1008, 1008), (1024, 1024)] rfl rfl ⟨⟨_, rfl, by first | (simp only [AV.ren]; done) | (simp only [AV.ren]; rw [ej]; done) | rfl, rfl⟩, ⟨_, rfl, by first | (simp only [AV.ren]; done) | (simp only [AV.ren]; rw [ej]; done) | rfl, rfl⟩, ⟨_, rfl, by first | (simp only [AV.ren]; done) | (simp only [AV.ren]; rw [ej]; done) | rfl, rfl⟩, ⟨_, rfl, by first | (simp only [AV.ren]; done) | (simp only [AV.ren]; rw [ej]; done) | rfl, rfl⟩, trivial⟩ ⟨⟨_, _, rfl, rfl, by first | (simp only [AV.ren]; done) | (simp only [AV.ren]; rw [ej]; done) | rfl, rfl, id, rfl⟩, ⟨_, _, rfl, rfl, by first | (simp only [AV.ren]; done) | (simp only [AV.ren]; rw [ej]; done) | rfl, rfl, id, rfl⟩, ⟨_, _, rfl, rfl, by first | (simp only [AV.ren]; done) | (simp only [AV.ren]; rw [ej]; done) | rfl, rfl, id, rfl⟩, trivial⟩) ?_
  refine .seq ?_
  refine .region ?_
  refine .q (op_loadRow Tryz.underlying29 rfl sz29 rfl rfl rfl (by show (outN5 (stl st) 8).length = 64; exact length_outN5 (stl st) 8)) trivial rfl ?_
  refine .as (.aggB (sha512 xs.flatten)) (congrArg AV.aggB (by rw [out_dig5, ← hst]; exact sha_flat5 xs)) ?_
  refine .w (op_storeRow sz29 rfl rfl rfl rfl rfl (by first | rfl | exact length_sha512 _ | exact List.length_replicate) (by first | rfl | exact length_sha512 _ | exact List.length_replicate)) trivial rfl ?_
  refine .nil ?_
  show Ev _ _ _ _ _
  refine .ret ?_
  show RetOk _ _ _ _ _ _ _
  exact retc1 rfl (.inl rfl) ⟨_, _, _, _, rfl, rfl, rfl, rfl, (length_sha512 _), Tryz.underlying29, rfl, sz29⟩ trivial
end Go.Proofs.YtcnjekoidgefpaaGreatDoor
