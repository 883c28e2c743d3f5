/-
  Texts of this claim.
-/
import Derived.Test.YtcnjekoidgefpaaGreatDoorGKSV
import Derived.Test.YtcnjekoidgefpaaGreatDoorGEV
namespace Go.Proofs.YtcnjekoidgefpaaGreatDoor
open Go.RowKit
theorem aK (s : List UInt8) (h : s.length ≤ 32) : leN s s.length % 2 ^ 255 % fp = ofV s := by
  have := leN_over s s.length (32 - s.length) (Nat.le_refl _)
  rw [show s.length + (32 - s.length) = 32 by omega] at this
  unfold ofV; rw [this]
theorem of_take (s : List UInt8) : ofV (s.take 32) = ofV s := by
  unfold ofV
  rw [uS (s.take 32) s 32 (fun i hi => by rw [List.getD_eq_getElem?_getD, List.getElem?_take, if_pos hi, ← List.getD_eq_getElem?_getD])]
set_option maxHeartbeats 1000000 in
set_option maxRecDepth 100000 in
theorem of05_sa (s : List UInt8) (hm : s.length ≤ 1000000) (hs : s.length ≤ 32) (h1 : dl (leN s s.length) < 16) (h : leN s s.length < fp) : kZ Tryz.prog 40 [.str s] [] (.sl 1000 0 (dl (ofV s)) 1) [(1000, some ⟨.aggI (dg (ofV s)), 3, true⟩)] := by
 have hs2 : s.length ≤ 32 := by omega
 have hd0 := qX (n := 16) (Nat.lt_of_lt_of_le (vR s s.length) (Nat.pow_le_pow_right (by decide) (by omega)))
 have hq2 := cX (Nat.mod_le (leN s s.length) (2 ^ 255))
 have he : ofV s = leN s s.length % 2 ^ 255 % fp := (aK s hs).symm
 refine mt (nt := 12) Tryz.func40 rfl rfl rfl <| .r <| .s rfl rfl <| .nil <| .seq <| .r <| .m rfl rfl <| .x (yX Tryz.underlying9 rfl) rfl <| .x (gZ rfl rfl rfl) rfl <| .nil <| .cond_false rfl (decide_eq_false (by omega)) <| .skip <| .r <| .m rfl rfl <| .y (aZ (U := [(1000, some ⟨.aggI (dg (leN s s.length)), 3, true⟩)]) [] [(1000, 1000)] (qP s (by omega)) Tryz.func23 (by kernel_rfl) rfl rfl rfl (⟨⟨_, rfl, rfl, rfl⟩, trivial⟩) (trivial) (⟨⟨1000, _, rfl, rfl, rfl, rfl, .inl rfl⟩, trivial⟩) (trivial) rfl) rfl <| .x (aZ (U := []) [(500, 1000)] [] (low_id (leN s s.length) h1) Tryz.func86 (by kernel_rfl) rfl rfl rfl (⟨⟨_, rfl, rfl, rfl⟩, trivial⟩) (⟨⟨_, _, rfl, rfl, rfl, rfl, nf, rfl⟩, trivial⟩) (trivial) (⟨nf, trivial⟩) rfl) rfl <| .x (aZ (U := []) [(500, 1000)] [] (yP (leN s s.length) h) Tryz.func83 (by kernel_rfl) rfl rfl rfl (⟨⟨_, rfl, rfl, rfl⟩, trivial⟩) (⟨⟨_, _, rfl, rfl, rfl, rfl, nf, rfl⟩, trivial⟩) (trivial) (⟨nf, trivial⟩) rfl) rfl <| .s rfl rfl <| .nil <| Ev.weak (st2 := ⟨[(2, .sl 1000 0 (dl (ofV s)) 1)], [(1000, some ⟨.aggI (dg (ofV s)), 3, true⟩)], 1008⟩) (StLe.mk [(1000, 1000)] rfl rfl ⟨⟨_, rfl, by (show AV.sl 1000 0 (dl (leN s s.length)) 1 = _; rw [he, cL h1, Nat.mod_eq_of_lt h]), rfl⟩, trivial⟩ ⟨⟨_, _, rfl, rfl, by (show AV.aggI (dg (leN s s.length)) = _; rw [he, cL h1, Nat.mod_eq_of_lt h]), rfl, id, rfl⟩, trivial⟩) <| .ret ?_
 exact yZ rfl (.inl rfl) rfl rfl ⟨rfl, trivial⟩
set_option maxHeartbeats 1000000 in
set_option maxRecDepth 100000 in
theorem of05_sb (s : List UInt8) (hm : s.length ≤ 1000000) (hs : s.length ≤ 32) (h1 : 16 ≤ dl (leN s s.length)) (h : (leN s s.length) % 2 ^ 255 < fp) : kZ Tryz.prog 40 [.str s] [] (.sl 1000 0 (dl (ofV s)) 1) [(1000, some ⟨.aggI (dg (ofV s)), 3, true⟩)] := by
 have hs2 : s.length ≤ 32 := by omega
 have hd0 := qX (n := 16) (Nat.lt_of_lt_of_le (vR s s.length) (Nat.pow_le_pow_right (by decide) (by omega)))
 have hq2 := cX (Nat.mod_le (leN s s.length) (2 ^ 255))
 have he : ofV s = leN s s.length % 2 ^ 255 % fp := (aK s hs).symm
 refine mt (nt := 12) Tryz.func40 rfl rfl rfl <| .r <| .s rfl rfl <| .nil <| .seq <| .r <| .m rfl rfl <| .x (yX Tryz.underlying9 rfl) rfl <| .x (gZ rfl rfl rfl) rfl <| .nil <| .cond_false rfl (decide_eq_false (by omega)) <| .skip <| .r <| .m rfl rfl <| .y (aZ (U := [(1000, some ⟨.aggI (dg (leN s s.length)), 3, true⟩)]) [] [(1000, 1000)] (qP s (by omega)) Tryz.func23 (by kernel_rfl) rfl rfl rfl (⟨⟨_, rfl, rfl, rfl⟩, trivial⟩) (trivial) (⟨⟨1000, _, rfl, rfl, rfl, rfl, .inl rfl⟩, trivial⟩) (trivial) rfl) rfl <| .y (aZ (U := [(1008, some ⟨.aggI (dg ((leN s s.length) % 2 ^ 255)), 3, true⟩)]) [(500, 1000)] [(1008, 1000)] (uR (leN s s.length) h1 (by omega)) Tryz.func86 (by kernel_rfl) rfl rfl rfl (⟨⟨_, rfl, rfl, rfl⟩, trivial⟩) (⟨⟨_, _, rfl, rfl, rfl, rfl, nf, rfl⟩, trivial⟩) (⟨⟨1000, _, rfl, rfl, rfl, rfl, .inl rfl⟩, trivial⟩) (⟨nf, trivial⟩) rfl) rfl <| .x (aZ (U := []) [(500, 1008)] [] (yP ((leN s s.length) % 2 ^ 255) h) Tryz.func83 (by kernel_rfl) rfl rfl rfl (⟨⟨_, rfl, rfl, rfl⟩, trivial⟩) (⟨⟨_, _, rfl, rfl, rfl, rfl, nf, rfl⟩, trivial⟩) (trivial) (⟨nf, trivial⟩) rfl) rfl <| .s rfl rfl <| .nil <| Ev.weak (st2 := ⟨[(2, .sl 1000 0 (dl (ofV s)) 1)], [(1000, some ⟨.aggI (dg (ofV s)), 3, true⟩)], 1008⟩) (StLe.mk [(1000, 1008)] rfl rfl ⟨⟨_, rfl, by (show AV.sl 1000 0 (dl ((leN s s.length) % 2 ^ 255)) 1 = _; rw [he, Nat.mod_eq_of_lt h]), rfl⟩, trivial⟩ ⟨⟨_, _, rfl, rfl, by (show AV.aggI (dg ((leN s s.length) % 2 ^ 255)) = _; rw [he, Nat.mod_eq_of_lt h]), rfl, id, rfl⟩, trivial⟩) <| .ret ?_
 exact yZ rfl (.inl rfl) rfl rfl ⟨rfl, trivial⟩
set_option maxHeartbeats 1000000 in
set_option maxRecDepth 100000 in
theorem of05_sc (s : List UInt8) (hm : s.length ≤ 1000000) (hs : s.length ≤ 32) (h1 : 16 ≤ dl (leN s s.length)) (h : fp ≤ (leN s s.length) % 2 ^ 255) : kZ Tryz.prog 40 [.str s] [] (.sl 1000 0 (dl (ofV s)) 1) [(1000, some ⟨.aggI (dg (ofV s)), 3, true⟩)] := by
 have hs2 : s.length ≤ 32 := by omega
 have hd0 := qX (n := 16) (Nat.lt_of_lt_of_le (vR s s.length) (Nat.pow_le_pow_right (by decide) (by omega)))
 have hq2 := cX (Nat.mod_le (leN s s.length) (2 ^ 255))
 have he : ofV s = leN s s.length % 2 ^ 255 % fp := (aK s hs).symm
 refine mt (nt := 12) Tryz.func40 rfl rfl rfl <| .r <| .s rfl rfl <| .nil <| .seq <| .r <| .m rfl rfl <| .x (yX Tryz.underlying9 rfl) rfl <| .x (gZ rfl rfl rfl) rfl <| .nil <| .cond_false rfl (decide_eq_false (by omega)) <| .skip <| .r <| .m rfl rfl <| .y (aZ (U := [(1000, some ⟨.aggI (dg (leN s s.length)), 3, true⟩)]) [] [(1000, 1000)] (qP s (by omega)) Tryz.func23 (by kernel_rfl) rfl rfl rfl (⟨⟨_, rfl, rfl, rfl⟩, trivial⟩) (trivial) (⟨⟨1000, _, rfl, rfl, rfl, rfl, .inl rfl⟩, trivial⟩) (trivial) rfl) rfl <| .y (aZ (U := [(1008, some ⟨.aggI (dg ((leN s s.length) % 2 ^ 255)), 3, true⟩)]) [(500, 1000)] [(1008, 1000)] (uR (leN s s.length) h1 (by omega)) Tryz.func86 (by kernel_rfl) rfl rfl rfl (⟨⟨_, rfl, rfl, rfl⟩, trivial⟩) (⟨⟨_, _, rfl, rfl, rfl, rfl, nf, rfl⟩, trivial⟩) (⟨⟨1000, _, rfl, rfl, rfl, rfl, .inl rfl⟩, trivial⟩) (⟨nf, trivial⟩) rfl) rfl <| .y (aZ (U := [(1016, some ⟨.aggI (dg (((leN s s.length) % 2 ^ 255) % fp)), 3, true⟩)]) [(500, 1008)] [(1016, 1000)] (nO ((leN s s.length) % 2 ^ 255) h (by omega)) Tryz.func83 (by kernel_rfl) rfl rfl rfl (⟨⟨_, rfl, rfl, rfl⟩, trivial⟩) (⟨⟨_, _, rfl, rfl, rfl, rfl, nf, rfl⟩, trivial⟩) (⟨⟨1000, _, rfl, rfl, rfl, rfl, .inl rfl⟩, trivial⟩) (⟨nf, trivial⟩) rfl) rfl <| .s rfl rfl <| .nil <| Ev.weak (st2 := ⟨[(2, .sl 1000 0 (dl (ofV s)) 1)], [(1000, some ⟨.aggI (dg (ofV s)), 3, true⟩)], 1008⟩) (StLe.mk [(1000, 1016)] rfl rfl ⟨⟨_, rfl, by (show AV.sl 1000 0 (dl (((leN s s.length) % 2 ^ 255) % fp)) 1 = _; rw [he]), rfl⟩, trivial⟩ ⟨⟨_, _, rfl, rfl, by (show AV.aggI (dg (((leN s s.length) % 2 ^ 255) % fp)) = _; rw [he]), rfl, id, rfl⟩, trivial⟩) <| .ret ?_
 exact yZ rfl (.inl rfl) rfl rfl ⟨rfl, trivial⟩
set_option maxHeartbeats 1000000 in
set_option maxRecDepth 100000 in
theorem of05_ta (s : List UInt8) (hm : s.length ≤ 1000000) (hs : 32 < s.length) (h1 : dl (leN (s.take 32) (s.take 32).length) < 16) (h : leN (s.take 32) (s.take 32).length < fp) : kZ Tryz.prog 40 [.str s] [] (.sl 1000 0 (dl (ofV s)) 1) [(1000, some ⟨.aggI (dg (ofV s)), 3, true⟩)] := by
 have hs2 : (s.take 32).length ≤ 32 := by simp; omega
 have hd0 := qX (n := 16) (Nat.lt_of_lt_of_le (vR (s.take 32) (s.take 32).length) (Nat.pow_le_pow_right (by decide) (by omega)))
 have hq2 := cX (Nat.mod_le (leN (s.take 32) (s.take 32).length) (2 ^ 255))
 have he : ofV s = leN (s.take 32) (s.take 32).length % 2 ^ 255 % fp := ((aK _ hs2).trans (of_take s)).symm
 refine mt (nt := 12) Tryz.func40 rfl rfl rfl <| .r <| .s rfl rfl <| .nil <| .seq <| .r <| .m rfl rfl <| .x (yX Tryz.underlying9 rfl) rfl <| .x (gZ rfl rfl rfl) rfl <| .nil <| .cond_true rfl (decide_eq_true (by omega)) <| .region <| .m rfl rfl <| .x (wY Tryz.underlying9 rfl (xZ rfl (l := 32) rfl) (by omega)) rfl <| .s rfl rfl <| .nil <| .r <| .m rfl rfl <| .y (aZ (U := [(1000, some ⟨.aggI (dg (leN (s.take 32) (s.take 32).length)), 3, true⟩)]) [] [(1000, 1000)] (qP (s.take 32) (by omega)) Tryz.func23 (by kernel_rfl) rfl rfl rfl (⟨⟨_, rfl, rfl, rfl⟩, trivial⟩) (trivial) (⟨⟨1000, _, rfl, rfl, rfl, rfl, .inl rfl⟩, trivial⟩) (trivial) rfl) rfl <| .x (aZ (U := []) [(500, 1000)] [] (low_id (leN (s.take 32) (s.take 32).length) h1) Tryz.func86 (by kernel_rfl) rfl rfl rfl (⟨⟨_, rfl, rfl, rfl⟩, trivial⟩) (⟨⟨_, _, rfl, rfl, rfl, rfl, nf, rfl⟩, trivial⟩) (trivial) (⟨nf, trivial⟩) rfl) rfl <| .x (aZ (U := []) [(500, 1000)] [] (yP (leN (s.take 32) (s.take 32).length) h) Tryz.func83 (by kernel_rfl) rfl rfl rfl (⟨⟨_, rfl, rfl, rfl⟩, trivial⟩) (⟨⟨_, _, rfl, rfl, rfl, rfl, nf, rfl⟩, trivial⟩) (trivial) (⟨nf, trivial⟩) rfl) rfl <| .s rfl rfl <| .nil <| Ev.weak (st2 := ⟨[(2, .sl 1000 0 (dl (ofV s)) 1)], [(1000, some ⟨.aggI (dg (ofV s)), 3, true⟩)], 1008⟩) (StLe.mk [(1000, 1000)] rfl rfl ⟨⟨_, rfl, by (show AV.sl 1000 0 (dl (leN (s.take 32) (s.take 32).length)) 1 = _; rw [he, cL h1, Nat.mod_eq_of_lt h]), rfl⟩, trivial⟩ ⟨⟨_, _, rfl, rfl, by (show AV.aggI (dg (leN (s.take 32) (s.take 32).length)) = _; rw [he, cL h1, Nat.mod_eq_of_lt h]), rfl, id, rfl⟩, trivial⟩) <| .ret ?_
 exact yZ rfl (.inl rfl) rfl rfl ⟨rfl, trivial⟩
set_option maxHeartbeats 1000000 in
set_option maxRecDepth 100000 in
theorem of05_tb (s : List UInt8) (hm : s.length ≤ 1000000) (hs : 32 < s.length) (h1 : 16 ≤ dl (leN (s.take 32) (s.take 32).length)) (h : (leN (s.take 32) (s.take 32).length) % 2 ^ 255 < fp) : kZ Tryz.prog 40 [.str s] [] (.sl 1000 0 (dl (ofV s)) 1) [(1000, some ⟨.aggI (dg (ofV s)), 3, true⟩)] := by
 have hs2 : (s.take 32).length ≤ 32 := by simp; omega
 have hd0 := qX (n := 16) (Nat.lt_of_lt_of_le (vR (s.take 32) (s.take 32).length) (Nat.pow_le_pow_right (by decide) (by omega)))
 have hq2 := cX (Nat.mod_le (leN (s.take 32) (s.take 32).length) (2 ^ 255))
 have he : ofV s = leN (s.take 32) (s.take 32).length % 2 ^ 255 % fp := ((aK _ hs2).trans (of_take s)).symm
 refine mt (nt := 12) Tryz.func40 rfl rfl rfl <| .r <| .s rfl rfl <| .nil <| .seq <| .r <| .m rfl rfl <| .x (yX Tryz.underlying9 rfl) rfl <| .x (gZ rfl rfl rfl) rfl <| .nil <| .cond_true rfl (decide_eq_true (by omega)) <| .region <| .m rfl rfl <| .x (wY Tryz.underlying9 rfl (xZ rfl (l := 32) rfl) (by omega)) rfl <| .s rfl rfl <| .nil <| .r <| .m rfl rfl <| .y (aZ (U := [(1000, some ⟨.aggI (dg (leN (s.take 32) (s.take 32).length)), 3, true⟩)]) [] [(1000, 1000)] (qP (s.take 32) (by omega)) Tryz.func23 (by kernel_rfl) rfl rfl rfl (⟨⟨_, rfl, rfl, rfl⟩, trivial⟩) (trivial) (⟨⟨1000, _, rfl, rfl, rfl, rfl, .inl rfl⟩, trivial⟩) (trivial) rfl) rfl <| .y (aZ (U := [(1008, some ⟨.aggI (dg ((leN (s.take 32) (s.take 32).length) % 2 ^ 255)), 3, true⟩)]) [(500, 1000)] [(1008, 1000)] (uR (leN (s.take 32) (s.take 32).length) h1 (by omega)) Tryz.func86 (by kernel_rfl) rfl rfl rfl (⟨⟨_, rfl, rfl, rfl⟩, trivial⟩) (⟨⟨_, _, rfl, rfl, rfl, rfl, nf, rfl⟩, trivial⟩) (⟨⟨1000, _, rfl, rfl, rfl, rfl, .inl rfl⟩, trivial⟩) (⟨nf, trivial⟩) rfl) rfl <| .x (aZ (U := []) [(500, 1008)] [] (yP ((leN (s.take 32) (s.take 32).length) % 2 ^ 255) h) Tryz.func83 (by kernel_rfl) rfl rfl rfl (⟨⟨_, rfl, rfl, rfl⟩, trivial⟩) (⟨⟨_, _, rfl, rfl, rfl, rfl, nf, rfl⟩, trivial⟩) (trivial) (⟨nf, trivial⟩) rfl) rfl <| .s rfl rfl <| .nil <| Ev.weak (st2 := ⟨[(2, .sl 1000 0 (dl (ofV s)) 1)], [(1000, some ⟨.aggI (dg (ofV s)), 3, true⟩)], 1008⟩) (StLe.mk [(1000, 1008)] rfl rfl ⟨⟨_, rfl, by (show AV.sl 1000 0 (dl ((leN (s.take 32) (s.take 32).length) % 2 ^ 255)) 1 = _; rw [he, Nat.mod_eq_of_lt h]), rfl⟩, trivial⟩ ⟨⟨_, _, rfl, rfl, by (show AV.aggI (dg ((leN (s.take 32) (s.take 32).length) % 2 ^ 255)) = _; rw [he, Nat.mod_eq_of_lt h]), rfl, id, rfl⟩, trivial⟩) <| .ret ?_
 exact yZ rfl (.inl rfl) rfl rfl ⟨rfl, trivial⟩
set_option maxHeartbeats 1000000 in
set_option maxRecDepth 100000 in
theorem of05_tc (s : List UInt8) (hm : s.length ≤ 1000000) (hs : 32 < s.length) (h1 : 16 ≤ dl (leN (s.take 32) (s.take 32).length)) (h : fp ≤ (leN (s.take 32) (s.take 32).length) % 2 ^ 255) : kZ Tryz.prog 40 [.str s] [] (.sl 1000 0 (dl (ofV s)) 1) [(1000, some ⟨.aggI (dg (ofV s)), 3, true⟩)] := by
 have hs2 : (s.take 32).length ≤ 32 := by simp; omega
 have hd0 := qX (n := 16) (Nat.lt_of_lt_of_le (vR (s.take 32) (s.take 32).length) (Nat.pow_le_pow_right (by decide) (by omega)))
 have hq2 := cX (Nat.mod_le (leN (s.take 32) (s.take 32).length) (2 ^ 255))
 have he : ofV s = leN (s.take 32) (s.take 32).length % 2 ^ 255 % fp := ((aK _ hs2).trans (of_take s)).symm
 refine mt (nt := 12) Tryz.func40 rfl rfl rfl <| .r <| .s rfl rfl <| .nil <| .seq <| .r <| .m rfl rfl <| .x (yX Tryz.underlying9 rfl) rfl <| .x (gZ rfl rfl rfl) rfl <| .nil <| .cond_true rfl (decide_eq_true (by omega)) <| .region <| .m rfl rfl <| .x (wY Tryz.underlying9 rfl (xZ rfl (l := 32) rfl) (by omega)) rfl <| .s rfl rfl <| .nil <| .r <| .m rfl rfl <| .y (aZ (U := [(1000, some ⟨.aggI (dg (leN (s.take 32) (s.take 32).length)), 3, true⟩)]) [] [(1000, 1000)] (qP (s.take 32) (by omega)) Tryz.func23 (by kernel_rfl) rfl rfl rfl (⟨⟨_, rfl, rfl, rfl⟩, trivial⟩) (trivial) (⟨⟨1000, _, rfl, rfl, rfl, rfl, .inl rfl⟩, trivial⟩) (trivial) rfl) rfl <| .y (aZ (U := [(1008, some ⟨.aggI (dg ((leN (s.take 32) (s.take 32).length) % 2 ^ 255)), 3, true⟩)]) [(500, 1000)] [(1008, 1000)] (uR (leN (s.take 32) (s.take 32).length) h1 (by omega)) Tryz.func86 (by kernel_rfl) rfl rfl rfl (⟨⟨_, rfl, rfl, rfl⟩, trivial⟩) (⟨⟨_, _, rfl, rfl, rfl, rfl, nf, rfl⟩, trivial⟩) (⟨⟨1000, _, rfl, rfl, rfl, rfl, .inl rfl⟩, trivial⟩) (⟨nf, trivial⟩) rfl) rfl <| .y (aZ (U := [(1016, some ⟨.aggI (dg (((leN (s.take 32) (s.take 32).length) % 2 ^ 255) % fp)), 3, true⟩)]) [(500, 1008)] [(1016, 1000)] (nO ((leN (s.take 32) (s.take 32).length) % 2 ^ 255) h (by omega)) Tryz.func83 (by kernel_rfl) rfl rfl rfl (⟨⟨_, rfl, rfl, rfl⟩, trivial⟩) (⟨⟨_, _, rfl, rfl, rfl, rfl, nf, rfl⟩, trivial⟩) (⟨⟨1000, _, rfl, rfl, rfl, rfl, .inl rfl⟩, trivial⟩) (⟨nf, trivial⟩) rfl) rfl <| .s rfl rfl <| .nil <| Ev.weak (st2 := ⟨[(2, .sl 1000 0 (dl (ofV s)) 1)], [(1000, some ⟨.aggI (dg (ofV s)), 3, true⟩)], 1008⟩) (StLe.mk [(1000, 1016)] rfl rfl ⟨⟨_, rfl, by (show AV.sl 1000 0 (dl (((leN (s.take 32) (s.take 32).length) % 2 ^ 255) % fp)) 1 = _; rw [he]), rfl⟩, trivial⟩ ⟨⟨_, _, rfl, rfl, by (show AV.aggI (dg (((leN (s.take 32) (s.take 32).length) % 2 ^ 255) % fp)) = _; rw [he]), rfl, id, rfl⟩, trivial⟩) <| .ret ?_
 exact yZ rfl (.inl rfl) rfl rfl ⟨rfl, trivial⟩
theorem of05 (s : List UInt8) (hm : s.length ≤ 1000000) : kZ Tryz.prog 40 [.str s] [] (.sl 1000 0 (dl (ofV s)) 1) [(1000, some ⟨.aggI (dg (ofV s)), 3, true⟩)] := by
 by_cases hs : s.length ≤ 32
 ·by_cases h1 : dl (leN s s.length) < 16
  ·have h2 : leN s s.length < fp := Nat.lt_of_lt_of_le (bW _) (Nat.le_trans (Nat.pow_le_pow_right (by decide) (show dl (leN s s.length) ≤ 15 by omega)) (by decide))
   exact of05_sa s hm hs h1 h2
  ·by_cases h : leN s s.length % 2 ^ 255 < fp
   ·exact of05_sb s hm hs (by omega) h
   ·exact of05_sc s hm hs (by omega) (by omega)
 ·by_cases h1 : dl (leN (s.take 32) (s.take 32).length) < 16
  ·have h2 : leN (s.take 32) (s.take 32).length < fp := Nat.lt_of_lt_of_le (bW _) (Nat.le_trans (Nat.pow_le_pow_right (by decide) (show dl (leN (s.take 32) (s.take 32).length) ≤ 15 by omega)) (by decide))
   exact of05_ta s hm (by omega) h1 h2
  ·by_cases h : leN (s.take 32) (s.take 32).length % 2 ^ 255 < fp
   ·exact of05_tb s hm (by omega) (by omega) h
   ·exact of05_tc s hm (by omega) (by omega) (by omega)
theorem sU (a : Nat) (ha : a < fp) : kZ Tryz.prog 87 [.sl 500 0 (dl a) 1, .sl 500 0 (dl a) 1] [(500, some ⟨.aggI (dg a), 3, false⟩)] (.sl 1000 0 (dl (a * a % fp)) 1) [(1000, some ⟨.aggI (dg (a * a % fp)), 3, true⟩)] := (mul05 a a ha ha).alias
/-! Powers. -/
theorem fV : 0 < fp := by decide
theorem bit_of (n i : Nat) : dk n (i / 16) / 2 ^ (i % 16) % 2 = n / 2 ^ i % 2 := by
 unfold dk
 have e : n / 2 ^ i = n / 65536 ^ (i / 16) / 2 ^ (i % 16) := by
  rw [Nat.div_div_eq_div_mul, show (65536 : Nat) = 2 ^ 16 from rfl, ← Nat.pow_mul, ← Nat.pow_add, Nat.div_add_mod]
 rw [e]
 generalize n / 65536 ^ (i / 16) = x
 have h : i % 16 < 16 := Nat.mod_lt _ (by decide)
 generalize i % 16 = m at *
 have e2 : x = x % 65536 + 2 ^ m * (2 * (2 ^ (15 - m) * (x / 65536))) := by
  have : 2 ^ m * (2 * (2 ^ (15 - m) * (x / 65536))) = 65536 * (x / 65536) := by
   rw [← Nat.mul_assoc 2, ← Nat.pow_succ', ← Nat.mul_assoc, ← Nat.pow_add, show m + (15 - m).succ = 16 by omega]
  rw [this]; omega
 conv => rhs; rw [e2, Nat.add_mul_div_left _ _ (Nat.pow_pos (by decide)), Nat.add_mul_mod_self_left]
def pwF (a n k : Nat) : Nat := a ^ (n / 2 ^ k) % fp
theorem pw_zero (a n : Nat) : pwF a n 0 = a ^ n % fp := by unfold pwF; simp
theorem pw_top (a n k : Nat) (h : n < 2 ^ k) : pwF a n k = 1 := by
 unfold pwF; rw [Nat.div_eq_of_lt h, Nat.pow_zero]; decide
theorem pw_half (n k : Nat) : n / 2 ^ k = 2 * (n / 2 ^ (k + 1)) + n / 2 ^ k % 2 := by
 rw [Nat.pow_succ, ← Nat.div_div_eq_div_mul]; omega
theorem pw_even (a n k : Nat) (h : n / 2 ^ k % 2 ≠ 1) : pwF a n (k + 1) * pwF a n (k + 1) % fp = pwF a n k := by
 unfold pwF
 conv => rhs; rw [pw_half n k, show n / 2 ^ k % 2 = 0 by omega, Nat.add_zero, Nat.mul_comm 2, Nat.pow_mul, Nat.pow_two]
 rw [← Nat.mul_mod]
theorem pw_odd (a n k : Nat) (h : n / 2 ^ k % 2 = 1) : pwF a n (k + 1) * pwF a n (k + 1) % fp * a % fp = pwF a n k := by
 unfold pwF
 conv => rhs; rw [pw_half n k, h, Nat.pow_succ, Nat.mul_comm 2, Nat.pow_mul, Nat.pow_two]
 rw [← Nat.mul_mod, Nat.mod_mul_mod]
theorem pw_lt (a n k : Nat) : pwF a n k < fp := Nat.mod_lt _ fV
theorem shr_bit (x m : Nat) : ((x : Nat) : Int) / 2 ^ m % 2 = ((x / 2 ^ m % 2 : Nat) : Int) := by simp
theorem oO (n : Nat) : n < 2 ^ (16 * dl n) := by
 have := bW n
 rw [show (65536 : Nat) = 2 ^ 16 from rfl, ← Nat.pow_mul] at this; exact this
set_option maxHeartbeats 1000000 in
set_option maxRecDepth 100000 in
theorem power05 (a n : Nat) (ha : a < fp) (hn : dl n ≤ 16) : kZ Tryz.prog 88 [.sl 500 0 (dl a) 1, .sl 501 0 (dl n) 1] [(500, some ⟨.aggI (dg a), 3, false⟩), (501, some ⟨.aggI (dg n), 3, false⟩)] (.sl 1000 0 (dl (a ^ n % fp)) 1) [(1000, some ⟨.aggI (dg (a ^ n % fp)), 3, true⟩)] := by
 refine mt (nt := 33) Tryz.func88 rfl rfl rfl <| .r <| .s rfl rfl <| .nil <| .r <| .y (aZ (U := [(1000, some ⟨.aggI (dg (1)), 3, true⟩)]) [] [(1000, 1000)] (kX 1 (by omega)) Tryz.func42 (by kernel_rfl) rfl rfl rfl (⟨⟨_, rfl, rfl, rfl⟩, trivial⟩) (trivial) (⟨⟨1000, _, rfl, rfl, rfl, rfl, .inl rfl⟩, trivial⟩) (trivial) rfl) rfl <| .s rfl rfl <| .nil <| .seq <| .r <| .m rfl rfl <| .x (rZ Tryz.underlying38 rfl) rfl <| .x (uY rfl rfl ⟨by omega, by omega⟩) rfl <| .x (tY rfl rfl ⟨by omega, by omega⟩) rfl <| .s rfl rfl <| .nil <| .block <| Ev.loop (ι := { k : Nat // k ≤ 16 * dl n }) (fun q => ⟨[(0, .sl 500 0 (dl a) 1), (1, .sl 501 0 (dl n) 1), (5, .sl 1000 0 (dl (pwF a n q.1)) 1), (6, .i64 (((q.1 : Nat) : Int) - 1))], [(500, some ⟨.aggI (dg a), 3, false⟩), (501, some ⟨.aggI (dg n), 3, false⟩), (1000, some ⟨.aggI (dg (pwF a n q.1)), 3, true⟩)], 1008⟩) (fun q => q.1) ⟨16 * dl n, Nat.le_refl _⟩ (StLe.mk [(1000, 1000)] rfl rfl ⟨⟨_, rfl, by rfl, rfl⟩, ⟨_, rfl, by rfl, rfl⟩, ⟨_, rfl, by (show AV.sl 1000 0 (dl 1) 1 = _; rw [pw_top a n _ (oO n)]), rfl⟩, ⟨_, rfl, by first | rfl | (simp only [AV.ren]; congr 1; omega) | (simp only [AV.ren]; congr 1), rfl⟩, trivial⟩ ⟨⟨_, _, rfl, rfl, rfl, rfl, id, rfl⟩, ⟨_, _, rfl, rfl, rfl, rfl, id, rfl⟩, ⟨_, _, rfl, rfl, by (show AV.aggI (dg 1) = _; rw [pw_top a n _ (oO n)]), rfl, id, rfl⟩, trivial⟩) ?_
 rintro ⟨k, hk⟩
 try dsimp only
 have hpl := pw_lt a n k
 have hpd := lY hpl
 have hxl : pwF a n k * pwF a n k % fp < fp := Nat.mod_lt _ fV
 have hln := dX n
 have hbit := bit_of n (k - 1)
 have hk1 : ∀ h : 0 < k, k - 1 + 1 = k := fun h => by omega
 have hdk : (k - 1) / 16 < dl n → (dg n).getD ((k - 1) / 16) 0 = (dk n ((k - 1) / 16) : Int) := fun h => aW _ _ _ h
 have hdb := qU n ((k - 1) / 16)
 have hE : 0 < k → n / 2 ^ (k - 1) % 2 ≠ 1 → pwF a n k * pwF a n k % fp = pwF a n (k - 1) := fun h h2 => by have := pw_even a n (k - 1) h2; rw [hk1 h] at this; exact this
 have hO : 0 < k → n / 2 ^ (k - 1) % 2 = 1 → pwF a n k * pwF a n k % fp * a % fp = pwF a n (k - 1) := fun h h2 => by have := pw_odd a n (k - 1) h2; rw [hk1 h] at this; exact this
 refine .seq <| .r <| .m rfl rfl <| .x (gZ rfl rfl rfl) rfl <| .nil <| .cond rfl (fun hc13 => ?_) (fun hc13 => ?_)
 ·simp only [decide_eq_true_eq] at hc13
  refine .skip <| .seq <| .block <| .r <| .m rfl rfl <| .m rfl rfl <| .y (aZ (U := [(1008, some ⟨.aggI (dg (pwF a n k * pwF a n k % fp)), 3, true⟩)]) [(500, 1000)] [(1008, 1000)] (sU (pwF a n k) hpl) Tryz.func87 (by kernel_rfl) rfl rfl rfl (⟨⟨_, rfl, rfl, rfl⟩, ⟨_, rfl, rfl, rfl⟩, trivial⟩) (⟨⟨_, _, rfl, rfl, rfl, rfl, nf, rfl⟩, trivial⟩) (⟨⟨1000, _, rfl, rfl, rfl, rfl, .inl rfl⟩, trivial⟩) (⟨nf, trivial⟩) rfl) rfl <| .s rfl rfl <| .nil <| .r <| .m rfl rfl <| .m rfl rfl <| .x (pY rfl rfl ⟨by omega, ⟨by omega, by omega⟩, by omega⟩) rfl <| .x (cY Tryz.underlying38 inf3.sz rfl rfl (i := (k - 1) / 16) (by omega) (by omega)) rfl <| .x (fZ Tryz.underlying3 rfl rfl rfl rfl (by show (k - 1) / 16 < (dg n).length; omega)) rfl <| .as (.i64 ((dk n ((k - 1) / 16) : Nat) : Int)) (congrArg AV.i64 (hdk (by omega))) <| .m rfl rfl <| .x (qY rfl rfl ⟨by omega, by omega⟩) rfl <| .x (oJ (n := (k - 1) % 16) rfl rfl (by simp only [tW]; rw [show ((k : Nat) : Int) - 1 = ((k - 1 : Nat) : Int) by omega, show ((k - 1 : Nat) : Int) % 16 = (((k - 1) % 16 : Nat) : Int) by omega]) (by omega)) rfl <| .x (qY rfl rfl ⟨by first | omega | (have := Int.ediv_nonneg (show (0 : Int) ≤ ((dk n ((k - 1) / 16) : Nat) : Int) by omega) (show (0 : Int) ≤ 2 ^ ((k - 1) % 16) from Int.le_of_lt (Int.pow_pos (by decide))); omega), by first | omega | (have := Int.ediv_nonneg (show (0 : Int) ≤ ((dk n ((k - 1) / 16) : Nat) : Int) by omega) (show (0 : Int) ≤ 2 ^ ((k - 1) % 16) from Int.le_of_lt (Int.pow_pos (by decide))); omega)⟩) rfl <| .as (.i64 ((n / 2 ^ (k - 1) % 2 : Nat) : Int)) (congrArg AV.i64 ((shr_bit _ _).trans (congrArg _ hbit))) <| .x (gZ rfl rfl rfl) rfl <| .nil <| .cond rfl (fun hc28 => ?_) (fun hc28 => ?_)
  ·simp only [beq_iff_eq] at hc28
   refine .region <| .m rfl rfl <| .m rfl rfl <| .y (aZ (U := [(1016, some ⟨.aggI (dg (pwF a n k * pwF a n k % fp * a % fp)), 3, true⟩)]) [(500, 1008), (501, 500)] [(1016, 1000)] (mul05 (pwF a n k * pwF a n k % fp) a hxl ha) Tryz.func87 (by kernel_rfl) rfl rfl rfl (⟨⟨_, rfl, rfl, rfl⟩, ⟨_, rfl, rfl, rfl⟩, trivial⟩) (⟨⟨_, _, rfl, rfl, rfl, rfl, nf, rfl⟩, ⟨_, _, rfl, rfl, rfl, rfl, nf, rfl⟩, trivial⟩) (⟨⟨1000, _, rfl, rfl, rfl, rfl, .inl rfl⟩, trivial⟩) (⟨nf, nf, trivial⟩) rfl) rfl <| .s rfl rfl <| .nil <| .region <| .m rfl rfl <| .x (tY rfl rfl ⟨by omega, by omega⟩) rfl <| .s rfl rfl <| .nil ?_
   first
    | exact ⟨⟨k - 1, by omega⟩, by dsimp only; omega, StLe.mk [(1000, 1016)] rfl rfl ⟨⟨_, rfl, by rfl, rfl⟩, ⟨_, rfl, by rfl, rfl⟩, ⟨_, rfl, by (show AV.sl 1000 0 (dl (pwF a n k * pwF a n k % fp * a % fp)) 1 = AV.sl 1000 0 (dl (pwF a n (k - 1))) 1; rw [hO (by omega) (by omega)]), rfl⟩, ⟨_, rfl, by (simp only [AV.ren]; congr 1; omega), rfl⟩, trivial⟩ ⟨⟨_, _, rfl, rfl, rfl, rfl, id, rfl⟩, ⟨_, _, rfl, rfl, rfl, rfl, id, rfl⟩, ⟨_, _, rfl, rfl, by (show AV.aggI (dg (pwF a n k * pwF a n k % fp * a % fp)) = _; rw [hO (by omega) (by omega)]), rfl, id, rfl⟩, trivial⟩⟩
    | exact ⟨⟨k - 1, by omega⟩, by dsimp only; omega, StLe.mk [(1000, 1008)] rfl rfl ⟨⟨_, rfl, by rfl, rfl⟩, ⟨_, rfl, by rfl, rfl⟩, ⟨_, rfl, by (show AV.sl 1000 0 (dl (pwF a n k * pwF a n k % fp)) 1 = AV.sl 1000 0 (dl (pwF a n (k - 1))) 1; rw [hE (by omega) (by omega)]), rfl⟩, ⟨_, rfl, by (simp only [AV.ren]; congr 1; omega), rfl⟩, trivial⟩ ⟨⟨_, _, rfl, rfl, rfl, rfl, id, rfl⟩, ⟨_, _, rfl, rfl, rfl, rfl, id, rfl⟩, ⟨_, _, rfl, rfl, by (show AV.aggI (dg (pwF a n k * pwF a n k % fp)) = _; rw [hE (by omega) (by omega)]), rfl, id, rfl⟩, trivial⟩⟩
  ·simp only [ne_eq, beq_eq_false_iff_ne] at hc28
   refine .skip <| .region <| .m rfl rfl <| .x (tY rfl rfl ⟨by omega, by omega⟩) rfl <| .s rfl rfl <| .nil ?_
   first
    | exact ⟨⟨k - 1, by omega⟩, by dsimp only; omega, StLe.mk [(1000, 1016)] rfl rfl ⟨⟨_, rfl, by rfl, rfl⟩, ⟨_, rfl, by rfl, rfl⟩, ⟨_, rfl, by (show AV.sl 1000 0 (dl (pwF a n k * pwF a n k % fp * a % fp)) 1 = AV.sl 1000 0 (dl (pwF a n (k - 1))) 1; rw [hO (by omega) (by omega)]), rfl⟩, ⟨_, rfl, by (simp only [AV.ren]; congr 1; omega), rfl⟩, trivial⟩ ⟨⟨_, _, rfl, rfl, rfl, rfl, id, rfl⟩, ⟨_, _, rfl, rfl, rfl, rfl, id, rfl⟩, ⟨_, _, rfl, rfl, by (show AV.aggI (dg (pwF a n k * pwF a n k % fp * a % fp)) = _; rw [hO (by omega) (by omega)]), rfl, id, rfl⟩, trivial⟩⟩
    | exact ⟨⟨k - 1, by omega⟩, by dsimp only; omega, StLe.mk [(1000, 1008)] rfl rfl ⟨⟨_, rfl, by rfl, rfl⟩, ⟨_, rfl, by rfl, rfl⟩, ⟨_, rfl, by (show AV.sl 1000 0 (dl (pwF a n k * pwF a n k % fp)) 1 = AV.sl 1000 0 (dl (pwF a n (k - 1))) 1; rw [hE (by omega) (by omega)]), rfl⟩, ⟨_, rfl, by (simp only [AV.ren]; congr 1; omega), rfl⟩, trivial⟩ ⟨⟨_, _, rfl, rfl, rfl, rfl, id, rfl⟩, ⟨_, _, rfl, rfl, rfl, rfl, id, rfl⟩, ⟨_, _, rfl, rfl, by (show AV.aggI (dg (pwF a n k * pwF a n k % fp)) = _; rw [hE (by omega) (by omega)]), rfl, id, rfl⟩, trivial⟩⟩
 ·simp only [decide_eq_false_iff_not] at hc13
  refine .exit <| .r <| .m rfl rfl <| .s rfl rfl <| .nil <| Ev.weak (st2 := ⟨[(4, .sl 1000 0 (dl (a ^ n % fp)) 1)], [(1000, some ⟨.aggI (dg (a ^ n % fp)), 3, true⟩)], 1008⟩) (StLe.mk [(1000, 1000)] rfl rfl ⟨⟨_, rfl, by (show AV.sl 1000 0 (dl (pwF a n k)) 1 = _; rw [show k = 0 by omega, pw_zero]), rfl⟩, trivial⟩ ⟨⟨_, _, rfl, rfl, by (show AV.aggI (dg (pwF a n k)) = _; rw [show k = 0 by omega, pw_zero]), rfl, id, rfl⟩, trivial⟩) <| .ret ?_
  exact yZ rfl (.inl rfl) rfl rfl ⟨rfl, trivial⟩
set_option maxHeartbeats 1000000 in
set_option maxRecDepth 100000 in
theorem invert05 (a : Nat) (ha : a < fp) : kZ Tryz.prog 44 [.sl 500 0 (dl a) 1] [(500, some ⟨.aggI (dg a), 3, false⟩)] (.sl 1000 0 (dl (a ^ (fp - 2) % fp)) 1) [(1000, some ⟨.aggI (dg (a ^ (fp - 2) % fp)), 3, true⟩)] := by
 refine mt (nt := 8) Tryz.func44 rfl rfl rfl <| .r <| .s rfl rfl <| .nil <| .r <| .m rfl rfl <| .y (aZ (U := [(1000, some ⟨.aggI (dg (fp)), 3, true⟩)]) [] [(1000, 1000)] (P_ev) Tryz.func85 (by kernel_rfl) rfl rfl rfl (trivial) (trivial) (⟨⟨1000, _, rfl, rfl, rfl, rfl, .inl rfl⟩, trivial⟩) (trivial) rfl) rfl <| .y (aZ (U := [(1008, some ⟨.aggI (dg (2)), 3, true⟩)]) [] [(1008, 1000)] (kX 2 (by omega)) Tryz.func42 (by kernel_rfl) rfl rfl rfl (⟨⟨_, rfl, rfl, rfl⟩, trivial⟩) (trivial) (⟨⟨1000, _, rfl, rfl, rfl, rfl, .inl rfl⟩, trivial⟩) (trivial) rfl) rfl <| .y (aZ (U := [(1016, some ⟨.aggI (dg (fp - 2)), 3, true⟩)]) [(500, 1000), (501, 1008)] [(1016, 1000)] (gS fp 2 (by decide) (by have := rV; omega) (Nat.le_trans (qX (n := 1) (by decide)) (by decide))) Tryz.func84 (by kernel_rfl) rfl rfl rfl (⟨⟨_, rfl, rfl, rfl⟩, ⟨_, rfl, rfl, rfl⟩, trivial⟩) (⟨⟨_, _, rfl, rfl, rfl, rfl, nf, rfl⟩, ⟨_, _, rfl, rfl, rfl, rfl, nf, rfl⟩, trivial⟩) (⟨⟨1000, _, rfl, rfl, rfl, rfl, .inl rfl⟩, trivial⟩) (⟨nf, nf, trivial⟩) rfl) rfl <| .y (aZ (U := [(1024, some ⟨.aggI (dg (a ^ (fp - 2) % fp)), 3, true⟩)]) [(500, 500), (501, 1016)] [(1024, 1000)] (power05 a (fp - 2) ha (Nat.le_trans (cX (Nat.sub_le fp 2)) rV)) Tryz.func88 (by kernel_rfl) rfl rfl rfl (⟨⟨_, rfl, rfl, rfl⟩, ⟨_, rfl, rfl, rfl⟩, trivial⟩) (⟨⟨_, _, rfl, rfl, rfl, rfl, nf, rfl⟩, ⟨_, _, rfl, rfl, rfl, rfl, nf, rfl⟩, trivial⟩) (⟨⟨1000, _, rfl, rfl, rfl, rfl, .inl rfl⟩, trivial⟩) (⟨nf, nf, trivial⟩) rfl) rfl <| .s rfl rfl <| .nil <| Ev.weak (st2 := ⟨[(2, .sl 1000 0 (dl (a ^ (fp - 2) % fp)) 1)], [(1000, some ⟨.aggI (dg (a ^ (fp - 2) % fp)), 3, true⟩)], 1008⟩) (StLe.mk [(1000, 1024)] rfl rfl ⟨⟨_, rfl, by (show AV.sl 1000 0 (dl (a ^ (fp - 2) % fp)) 1 = _; rfl), rfl⟩, trivial⟩ ⟨⟨_, _, rfl, rfl, by (show AV.aggI (dg (a ^ (fp - 2) % fp)) = _; rfl), rfl, id, rfl⟩, trivial⟩) <| .ret ?_
 exact yZ rfl (.inl rfl) rfl rfl ⟨rfl, trivial⟩
end Go.Proofs.YtcnjekoidgefpaaGreatDoor
