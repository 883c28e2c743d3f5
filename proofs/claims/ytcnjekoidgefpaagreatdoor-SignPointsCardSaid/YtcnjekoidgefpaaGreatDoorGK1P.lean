/-
  Texts of this claim.
-/
import Derived.Test.YtcnjekoidgefpaaGreatDoorGFTP
import Derived.Test.YtcnjekoidgefpaaGreatDoorGKEP
import Derived.Test.YtcnjekoidgefpaaGreatDoorGEP
namespace Go.Proofs.YtcnjekoidgefpaaGreatDoor
open Go.RowKit
theorem zero40 : (Tryz.prog.info? 40).map (·.zero) = some (some (.agg #[.slice none 0 0, .slice none 0 0, .slice none 0 0])) := by kernel_rfl
theorem rel_zero40 : Rel (fun _ => none) (.agg [.nilsl, .nilsl, .nilsl]) (.agg #[.slice none 0 0, .slice none 0 0, .slice none 0 0]) := rel_agg rfl ⟨.nilsl, .nilsl, .nilsl, trivial⟩
theorem k5add (a b : Nat) (ha : a < fp) (hb : b < fp) : Meets Tryz.prog 45 [.sl 500 0 (dl a) 1, .sl 501 0 (dl b) 1] [(500, some ⟨.aggI (dg (a)), 3, false⟩), (501, some ⟨.aggI (dg (b)), 3, false⟩)] (.sl 1000 0 (dl (aF a b)) 1) [(1000, some ⟨.aggI (dg (aF a b)), 3, true⟩)] := add05 a b ha hb
theorem k5mul (a b : Nat) (ha : a < fp) (hb : b < fp) : Meets Tryz.prog 87 [.sl 500 0 (dl a) 1, .sl 501 0 (dl b) 1] [(500, some ⟨.aggI (dg (a)), 3, false⟩), (501, some ⟨.aggI (dg (b)), 3, false⟩)] (.sl 1000 0 (dl (mF a b)) 1) [(1000, some ⟨.aggI (dg (mF a b)), 3, true⟩)] := mul05 a b ha hb
theorem k5mulq (a : Nat) (ha : a < fp) : Meets Tryz.prog 87 [.sl 500 0 (dl a) 1, .sl 500 0 (dl a) 1] [(500, some ⟨.aggI (dg (a)), 3, false⟩)] (.sl 1000 0 (dl (mF a a)) 1) [(1000, some ⟨.aggI (dg (mF a a)), 3, true⟩)] := mulsq05 a ha
theorem k5sub (a b : Nat) (ha : a < fp) (hb : b < fp) : Meets Tryz.prog 38 [.sl 500 0 (dl a) 1, .sl 501 0 (dl b) 1] [(500, some ⟨.aggI (dg (a)), 3, false⟩), (501, some ⟨.aggI (dg (b)), 3, false⟩)] (.sl 1000 0 (dl (sF a b)) 1) [(1000, some ⟨.aggI (dg (sF a b)), 3, true⟩)] := sub05 a b ha hb
theorem k5subn (b : Nat) (hb : b < fp) : Meets Tryz.prog 38 [.nilsl, .sl 501 0 (dl b) 1] [(501, some ⟨.aggI (dg (b)), 3, false⟩)] (.sl 1000 0 (dl (nF b)) 1) [(1000, some ⟨.aggI (dg (nF b)), 3, true⟩)] := subn05 b hb
theorem k5inv (a : Nat) (ha : a < fp) : Meets Tryz.prog 44 [.sl 500 0 (dl a) 1] [(500, some ⟨.aggI (dg (a)), 3, false⟩)] (.sl 1000 0 (dl (invF a)) 1) [(1000, some ⟨.aggI (dg (invF a)), 3, true⟩)] := invert05 a ha
set_option maxRecDepth 100000 in
theorem k8mul (a b : Nat) (ha : a < fp) (hb : b < fp) : Meets Tryz.prog 41 [.sl 500 0 (dl a) 1, .sl 501 0 (dl b) 1] [(500, some ⟨.aggI (dg (a)), 3, false⟩), (501, some ⟨.aggI (dg (b)), 3, false⟩)] (.sl 1000 0 (dl (mF a b)) 1) [(1000, some ⟨.aggI (dg (mF a b)), 3, true⟩)] := by
 refine meets_of_ev (nt := 8) Tryz.func41 rfl rfl (Nat.le_of_ble_eq_true rfl) ?_
 refine .seq ?_
 refine .region ?_
 refine .q (op_assign rfl) trivial rfl ?_
 refine .nil ?_
 show Ev _ _ _ _ _
 refine .seq ?_
 refine .region ?_
 refine .q (op_move rfl) trivial rfl ?_
 refine .q (op_move rfl) trivial rfl ?_
 refine .a (op_call (U := [(1000, some ⟨.aggI (dg (mF (a) (b))), 3, true⟩)]) [(500, 500), (501, 501)] [(1000, 1000)] (k5mul (a) (b) (by first | assumption | decide) (by first | assumption | decide)) Tryz.func87 (by kernel_rfl) rfl rfl rfl (⟨⟨_, rfl, rfl, rfl⟩, ⟨_, rfl, rfl, rfl⟩, trivial⟩) (⟨⟨_, _, rfl, rfl, rfl, rfl, (fun h => by cases h), rfl⟩, ⟨_, _, rfl, rfl, rfl, rfl, (fun h => by cases h), rfl⟩, trivial⟩) (⟨⟨1000, _, rfl, rfl, rfl, rfl, .inl rfl⟩, trivial⟩) (⟨(fun h => by cases h), (fun h => by cases h), trivial⟩) rfl) trivial rfl ?_
 refine .q (op_assign rfl) trivial rfl ?_
 refine .nil ?_
 show Ev _ _ _ _ _
 refine .ret ?_
 show RetOk _ _ _ _ _ _ _
 exact ret1v rfl (.inl rfl) rfl rfl ⟨rfl, trivial⟩
set_option maxRecDepth 100000 in
theorem k8mulq (a : Nat) (ha : a < fp) : Meets Tryz.prog 41 [.sl 500 0 (dl a) 1, .sl 500 0 (dl a) 1] [(500, some ⟨.aggI (dg (a)), 3, false⟩)] (.sl 1000 0 (dl (mF a a)) 1) [(1000, some ⟨.aggI (dg (mF a a)), 3, true⟩)] := by
 refine meets_of_ev (nt := 8) Tryz.func41 rfl rfl (Nat.le_of_ble_eq_true rfl) ?_
 refine .seq ?_
 refine .region ?_
 refine .q (op_assign rfl) trivial rfl ?_
 refine .nil ?_
 show Ev _ _ _ _ _
 refine .seq ?_
 refine .region ?_
 refine .q (op_move rfl) trivial rfl ?_
 refine .q (op_move rfl) trivial rfl ?_
 refine .a (op_call (U := [(1000, some ⟨.aggI (dg (mF (a) (a))), 3, true⟩)]) [(500, 500)] [(1000, 1000)] (k5mulq (a) (by first | assumption | decide)) Tryz.func87 (by kernel_rfl) rfl rfl rfl (⟨⟨_, rfl, rfl, rfl⟩, ⟨_, rfl, rfl, rfl⟩, trivial⟩) (⟨⟨_, _, rfl, rfl, rfl, rfl, (fun h => by cases h), rfl⟩, trivial⟩) (⟨⟨1000, _, rfl, rfl, rfl, rfl, .inl rfl⟩, trivial⟩) (⟨(fun h => by cases h), trivial⟩) rfl) trivial rfl ?_
 refine .q (op_assign rfl) trivial rfl ?_
 refine .nil ?_
 show Ev _ _ _ _ _
 refine .ret ?_
 show RetOk _ _ _ _ _ _ _
 exact ret1v rfl (.inl rfl) rfl rfl ⟨rfl, trivial⟩
set_option maxRecDepth 100000 in
theorem k8D0  : Meets Tryz.prog 17 [] [] (.sl 1032 0 (dl (mF (nF 121665) (invF 121666))) 1) [(1032, some ⟨.aggI (dg (mF (nF 121665) (invF 121666))), 3, true⟩)] := by
 refine meets_of_ev (nt := 6) Tryz.func17 rfl rfl (Nat.le_of_ble_eq_true rfl) ?_
 refine .seq ?_
 refine .region ?_
 refine .q (op_assign rfl) trivial rfl ?_
 refine .nil ?_
 show Ev _ _ _ _ _
 refine .seq ?_
 refine .region ?_
 refine .a (op_call (U := [(1000, some ⟨.aggI (dg (121665)), 3, true⟩)]) [] [(1000, 1000)] (small_ev 121665 (by omega)) Tryz.func42 (by kernel_rfl) rfl rfl rfl (⟨⟨_, rfl, rfl, rfl⟩, trivial⟩) (trivial) (⟨⟨1000, _, rfl, rfl, rfl, rfl, .inl rfl⟩, trivial⟩) (trivial) rfl) trivial rfl ?_
 refine .a (op_call (U := [(1008, some ⟨.aggI (dg (nF (121665))), 3, true⟩)]) [(501, 1000)] [(1008, 1000)] (k5subn (121665) (by first | assumption | decide)) Tryz.func38 (by kernel_rfl) rfl rfl rfl (⟨⟨_, rfl, rfl, rfl⟩, ⟨_, rfl, rfl, rfl⟩, trivial⟩) (⟨⟨_, _, rfl, rfl, rfl, rfl, (fun h => by cases h), rfl⟩, trivial⟩) (⟨⟨1000, _, rfl, rfl, rfl, rfl, .inl rfl⟩, trivial⟩) (⟨(fun h => by cases h), trivial⟩) rfl) trivial rfl ?_
 refine .a (op_call (U := [(1016, some ⟨.aggI (dg (121666)), 3, true⟩)]) [] [(1016, 1000)] (small_ev 121666 (by omega)) Tryz.func42 (by kernel_rfl) rfl rfl rfl (⟨⟨_, rfl, rfl, rfl⟩, trivial⟩) (trivial) (⟨⟨1000, _, rfl, rfl, rfl, rfl, .inl rfl⟩, trivial⟩) (trivial) rfl) trivial rfl ?_
 refine .a (op_call (U := [(1024, some ⟨.aggI (dg (invF (121666))), 3, true⟩)]) [(500, 1016)] [(1024, 1000)] (k5inv (121666) (by first | assumption | decide)) Tryz.func44 (by kernel_rfl) rfl rfl rfl (⟨⟨_, rfl, rfl, rfl⟩, trivial⟩) (⟨⟨_, _, rfl, rfl, rfl, rfl, (fun h => by cases h), rfl⟩, trivial⟩) (⟨⟨1000, _, rfl, rfl, rfl, rfl, .inl rfl⟩, trivial⟩) (⟨(fun h => by cases h), trivial⟩) rfl) trivial rfl ?_
 refine .a (op_call (U := [(1032, some ⟨.aggI (dg (mF (nF (121665)) (invF (121666)))), 3, true⟩)]) [(500, 1008), (501, 1024)] [(1032, 1000)] (k8mul (nF (121665)) (invF (121666)) (nF_lt _) (invF_lt _)) Tryz.func41 (by kernel_rfl) rfl rfl rfl (⟨⟨_, rfl, rfl, rfl⟩, ⟨_, rfl, rfl, rfl⟩, trivial⟩) (⟨⟨_, _, rfl, rfl, rfl, rfl, (fun h => by cases h), rfl⟩, ⟨_, _, rfl, rfl, rfl, rfl, (fun h => by cases h), rfl⟩, trivial⟩) (⟨⟨1000, _, rfl, rfl, rfl, rfl, .inl rfl⟩, trivial⟩) (⟨(fun h => by cases h), (fun h => by cases h), trivial⟩) rfl) trivial rfl ?_
 refine .q (op_assign rfl) trivial rfl ?_
 refine .nil ?_
 show Ev _ _ _ _ _
 refine .ret ?_
 show RetOk _ _ _ _ _ _ _
 exact ret1v rfl (.inl rfl) rfl rfl ⟨rfl, trivial⟩
theorem k8D : Meets Tryz.prog 17 [] [] (.sl 1032 0 (dl dV) 1) [(1032, some ⟨.aggI (dg dV), 3, true⟩)] := dV_ref ▸ k8D0
end Go.Proofs.YtcnjekoidgefpaaGreatDoor
