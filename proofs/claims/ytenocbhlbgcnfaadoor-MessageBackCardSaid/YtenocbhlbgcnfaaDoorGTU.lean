/-
  Texts of this claim.
-/
import Derived.Test.YtenocbhlbgcnfaaDoorGTS
import Derived.Test.YtenocbhlbgcnfaaDoorGTE
import Derived.Test.YtenocbhlbgcnfaaDoorGTO
import Derived.Test.YtenocbhlbgcnfaaDoorGTW
import Derived.Test.YtenocbhlbgcnfaaDoorGTV
namespace Go.Proofs.YtenocbhlbgcnfaaDoor
open Go.RowKit
end Go.Proofs.YtenocbhlbgcnfaaDoor
namespace Go.Proofs.YtenocbhlbgcnfaaDoor
open Go.RowKit
theorem EvL.weakL {P : Program} {nt : Nat} {ops rest : List Oper} {st st2 : St} {q : St → Prop} (h : StLe nt st st2) (h2 : EvL P nt ops rest st2 q) : EvL P nt ops rest st q := by
  intro E S n0 a w Q hn hR hK
  obtain ⟨E', hkp, hR2⟩ := h.2 E S n0 a w hR
  exact h2 E' S n0 a w Q h.1 hR2 (fun st' E'' a' w' h1 h3 h4 h5 h6 => hK st' E'' a' w' h1 h3 (hkp.trans h4) h5 h6)
theorem EvL.freezeF {P : Program} {nt : Nat} {ops rest : List Oper} {q : St → Prop} {T : List (Nat × AV)} {H : List (Nat × Option ABlk)} {nx t b o n z e : Nat} {c : AV} (hn : 1000 ≤ nx) (ht : lk T t = some (.sl b o n z)) (hb : hget H b = some ⟨c, e, true⟩) (hl : o + n * z ≤ c.list.length) (hst : ∀ x ∈ c.list, x.still = true)
    (h : EvL P nt ops rest ⟨(t, .fsl ((c.list.drop o).take (n * z)) n z) :: T, (b, none) :: H, nx⟩ q) (hmm : c.isMap = false := by first | rfl | assumption | exact AV.map_parts (by assumption)) : EvL P nt ops rest ⟨T, H, nx⟩ q := EvL.weakL (StLe.freezeF hn ht hb hl hst) h
theorem EvL.freeze {P : Program} {nt : Nat} {ops rest : List Oper} {q : St → Prop} {T : List (Nat × AV)} {H : List (Nat × Option ABlk)} {nx t b o n e : Nat} {L : List (List UInt8)} (hn : 1000 ≤ nx) (ht : lk T t = some (.sl b o n 1)) (hb : hget H b = some ⟨.aggS L, e, true⟩) (hl : o + n ≤ L.length)
    (h : EvL P nt ops rest ⟨(t, .dsl ((L.drop o).take n)) :: T, (b, none) :: H, nx⟩ q) : EvL P nt ops rest ⟨T, H, nx⟩ q := by
  refine EvL.freezeF hn ht hb (by have e9 : (L.map AV.str).length = L.length := List.length_map _; show _ ≤ (L.map AV.str).length; omega) (fun x hx => by obtain ⟨q, _, rfl⟩ := List.mem_map.1 (show x ∈ L.map AV.str from hx); rfl) ?_
  refine EvL.asR (.dsl ((L.drop o).take n)) (fun E y hr => fsl_dsl (n := n) (by rw [List.length_take, List.length_drop]; omega) E y (by
    have e : ((AV.aggS L).list.drop o).take (n * 1) = ((L.drop o).take n).map .str := by show ((L.map AV.str).drop o).take (n * 1) = _; rw [Nat.mul_one, List.map_take, List.map_drop]
    rwa [e] at hr)) ?_
  exact h
section
variable {P : Program} {T : Nat → Option AV} {H : Hp} {nm : Nat} {wr : Bool} {d : Option Tmp} {ty : TypeId} {ps : String} {af : Array Edge} {gd : Option (Nat × Bool)} {t e : TypeId} {x y : Operand} {l : List (List UInt8)}
end
end Go.Proofs.YtenocbhlbgcnfaaDoor
namespace Go.Proofs.YtenocbhlbgcnfaaDoor
open Go.RowKit
set_option maxRecDepth 100000 in
theorem namesd_nil (i : DI) (hr : i.r.length ≤ 90000000) (h0 : (textD i 4096).2 = []) (eo : Nat → Nat × Nat) : Meets Tryd.prog 52 [.ptr 500 0] [(500, some ⟨.agg [.str (i).r, .err 131 ((i).e) (offE eo ((i).e))], 93, true⟩), (1, some ⟨.agg [.err 131 (2) (offE eo (2))], errT, false⟩), (3, some ⟨.agg [.err 131 (4) (offE eo (4))], errT, false⟩), (2, some ⟨.agg [.err 131 (3) (offE eo (3))], errT, false⟩)] (.dsl []) [(500, some ⟨.agg [.str ((textD i 4096).1).r, .err 131 (((textD i 4096).1).e) (offE eo (((textD i 4096).1).e))], 93, true⟩)] := by
 have hl := (textD_len_le i 4096).1
 have hn : (splitC (textD i 4096).2).length ≤ 90000001 := by
  rw [splitC_len]; have := List.count_le_length (a := (44 : UInt8)) (l := (textD i 4096).2); omega
 refine meets_of_ev (nt := 27) Tryd.func52 rfl rfl (Nat.le_of_ble_eq_true rfl) ?_
 refine .seq ?_
 refine .region ?_
 refine .q (op_assign rfl) trivial rfl ?_
 refine .nil ?_
 show Ev _ _ _ _ _
 refine .seq ?_
 refine .region ?_
 refine .q (op_move rfl) trivial rfl ?_
 refine .a (op_call (U := [(500, some ⟨.agg [.str ((textD i 4096).1).r, .err 131 (((textD i 4096).1).e) (offE eo (((textD i 4096).1).e))], 93, true⟩)]) [(500, 500)] [] (itext_ev i 4096 eo) Tryd.func53 (by kernel_rfl) rfl rfl rfl (⟨⟨_, rfl, rfl, rfl⟩, ⟨_, rfl, rfl, rfl⟩, trivial⟩) (⟨⟨_, _, rfl, rfl, rfl, rfl, id, rfl⟩, ⟨_, _, rfl, rfl, rfl, rfl, (fun h => by cases h), rfl⟩, ⟨_, _, rfl, rfl, rfl, rfl, (fun h => by cases h), rfl⟩, trivial⟩) (⟨⟨500, _, rfl, rfl, rfl, rfl, .inr ⟨rfl, _, rfl, rfl⟩⟩, trivial⟩) (⟨(fun _ => ⟨500, _, rfl, rfl⟩), (fun h => by cases h), (fun h => by cases h), trivial⟩) rfl) trivial rfl ?_
 refine .q (op_assign rfl) trivial rfl ?_
 refine .nil ?_
 show Ev _ _ _ _ _
 refine .seq ?_
 refine .seq ?_
 refine .region ?_
 refine .q (op_move rfl) trivial rfl ?_
 refine .q (op_eqS rfl rfl rfl) trivial rfl ?_
 refine .nil ?_
 show Ev _ _ _ _ _
 refine .cond_true rfl (by rw [h0]; rfl) ?_
 refine .seq ?_
 refine .region ?_
 refine .q (op_assign rfl) trivial rfl ?_
 refine .asR (.dsl []) nil_dsl ?_
 refine .nil ?_
 show Ev _ _ _ _ _
 refine .ret ?_
 show RetOk _ _ _ _ _ _ _
 exact ret1v rfl (.inl rfl) rfl rfl ⟨rfl, trivial⟩
set_option maxRecDepth 100000 in
theorem namesd_ok (i : DI) (hr : i.r.length ≤ 90000000) (h0 : ¬ (textD i 4096).2 = []) (h : (splitC (textD i 4096).2).all nameOk = true) (eo : Nat → Nat × Nat) : Meets Tryd.prog 52 [.ptr 500 0] [(500, some ⟨.agg [.str (i).r, .err 131 ((i).e) (offE eo ((i).e))], 93, true⟩), (1, some ⟨.agg [.err 131 (2) (offE eo (2))], errT, false⟩), (3, some ⟨.agg [.err 131 (4) (offE eo (4))], errT, false⟩), (2, some ⟨.agg [.err 131 (3) (offE eo (3))], errT, false⟩)] (.dsl (splitC (textD i 4096).2)) [(500, some ⟨.agg [.str ((textD i 4096).1).r, .err 131 (((textD i 4096).1).e) (offE eo (((textD i 4096).1).e))], 93, true⟩)] := by
 have hl := (textD_len_le i 4096).1
 have hn : (splitC (textD i 4096).2).length ≤ 90000001 := by
  rw [splitC_len]; have := List.count_le_length (a := (44 : UInt8)) (l := (textD i 4096).2); omega
 refine meets_of_ev (nt := 27) Tryd.func52 rfl rfl (Nat.le_of_ble_eq_true rfl) ?_
 refine .seq ?_
 refine .region ?_
 refine .q (op_assign rfl) trivial rfl ?_
 refine .nil ?_
 show Ev _ _ _ _ _
 refine .seq ?_
 refine .region ?_
 refine .q (op_move rfl) trivial rfl ?_
 refine .a (op_call (U := [(500, some ⟨.agg [.str ((textD i 4096).1).r, .err 131 (((textD i 4096).1).e) (offE eo (((textD i 4096).1).e))], 93, true⟩)]) [(500, 500)] [] (itext_ev i 4096 eo) Tryd.func53 (by kernel_rfl) rfl rfl rfl (⟨⟨_, rfl, rfl, rfl⟩, ⟨_, rfl, rfl, rfl⟩, trivial⟩) (⟨⟨_, _, rfl, rfl, rfl, rfl, id, rfl⟩, ⟨_, _, rfl, rfl, rfl, rfl, (fun h => by cases h), rfl⟩, ⟨_, _, rfl, rfl, rfl, rfl, (fun h => by cases h), rfl⟩, trivial⟩) (⟨⟨500, _, rfl, rfl, rfl, rfl, .inr ⟨rfl, _, rfl, rfl⟩⟩, trivial⟩) (⟨(fun _ => ⟨500, _, rfl, rfl⟩), (fun h => by cases h), (fun h => by cases h), trivial⟩) rfl) trivial rfl ?_
 refine .q (op_assign rfl) trivial rfl ?_
 refine .nil ?_
 show Ev _ _ _ _ _
 refine .seq ?_
 refine .seq ?_
 refine .region ?_
 refine .q (op_move rfl) trivial rfl ?_
 refine .q (op_eqS rfl rfl rfl) trivial rfl ?_
 refine .nil ?_
 show Ev _ _ _ _ _
 refine .cond_false rfl (beq_eq_false_iff_ne.2 h0) ?_
 refine .skip ?_
 show Ev _ _ _ _ _
 refine .seq ?_
 refine .region ?_
 refine .q (op_move rfl) trivial rfl ?_
 refine .a (op_call (U := [(1008, some ⟨.aggS (splitC (textD i 4096).2), 9, true⟩)]) [] [(1008, 1000)] (split_ev (textD i 4096).2 (by omega)) Tryd.func65 (by kernel_rfl) rfl rfl rfl (⟨⟨_, rfl, rfl, rfl⟩, ⟨_, rfl, rfl, rfl⟩, trivial⟩) (trivial) (⟨⟨1000, _, rfl, rfl, rfl, rfl, .inl rfl⟩, trivial⟩) (trivial) rfl) trivial rfl ?_
 refine .q (op_assign rfl) trivial rfl ?_
 refine .nil ?_
 show Ev _ _ _ _ _
 refine .seq ?_
 refine .seq ?_
 refine Ev.freeze (t := 4) (b := 1008) (o := 0) (n := (splitC (textD i 4096).2).length) (e := 9) (L := splitC (textD i 4096).2) (Nat.le_of_ble_eq_true rfl) rfl rfl (by omega) ?_
 refine Ev.asR (T1 := []) (.dsl (splitC (textD i 4096).2)) (fun E y h => by rw [List.drop_zero, List.take_length] at h; exact h) ?_
 show Ev _ _ _ _ _
 refine .region ?_
 refine .q (op_move rfl) trivial rfl ?_
 refine .q (op_len_dsl Tryd.underlying23 rfl) trivial rfl ?_
 refine .q (op_move rfl) trivial rfl ?_
 refine .nil ?_
 show Ev _ _ _ _ _
 refine .block ?_
 refine Ev.loop (ι := { j : Nat // j ≤ (splitC (textD i 4096).2).length }) (fun q => ⟨[(0, .ptr 500 0), (4, .dsl (splitC (textD i 4096).2)), (13, .dsl (splitC (textD i 4096).2)), (14, .i64 ((splitC (textD i 4096).2).length : Int)), (15, .i64 (q.1 : Int))], [(500, some ⟨.agg [.str ((textD i 4096).1).r, .err 131 (((textD i 4096).1).e) (offE eo (((textD i 4096).1).e))], 93, true⟩), (2, some ⟨.agg [.err 131 (3) (offE eo (3))], errT, false⟩)], 1016⟩) (fun q => (splitC (textD i 4096).2).length - q.1) ⟨0, Nat.zero_le _⟩ (StLe.mk [] rfl rfl ⟨⟨_, rfl, by first | rfl | (simp only [AV.ren]; congr 1; omega), rfl⟩, ⟨_, rfl, by first | rfl | (simp only [AV.ren]; congr 1; omega), rfl⟩, ⟨_, rfl, by first | rfl | (simp only [AV.ren]; congr 1; omega), rfl⟩, ⟨_, rfl, by first | rfl | (simp only [AV.ren]; congr 1; omega), rfl⟩, ⟨_, rfl, by first | rfl | (simp only [AV.ren]; congr 1; omega), rfl⟩, trivial⟩ ⟨⟨_, _, rfl, rfl, rfl, rfl, id, rfl⟩, ⟨_, _, rfl, rfl, rfl, rfl, id, rfl⟩, trivial⟩) ?_
 rintro ⟨j, hj⟩
 try dsimp only
 refine .seq ?_
 refine .region ?_
 refine .q (op_cmpI rfl rfl rfl) trivial rfl ?_
 refine .nil ?_
 show Ev _ _ _ _ _
 refine .seq ?_
 refine .cond rfl (fun hc16 => ?_) (fun hc16 => ?_)
 ·simp only [decide_eq_true_eq] at hc16
  refine .skip ?_
  show Ev _ _ _ _ _
  refine .seq ?_
  refine .block ?_
  refine .seq ?_
  refine .region ?_
  refine .q (op_indexAddr_dsl Tryd.underlying23 inf9.sz rfl rfl rfl (by omega)) trivial rfl ?_
  refine .q (op_load_dptr Tryd.underlying9 rfl rfl (drop_get (by omega))) trivial rfl ?_
  refine .q (op_assign rfl) trivial rfl ?_
  refine .nil ?_
  show Ev _ _ _ _ _
  refine .seq ?_
  refine .region ?_
  refine .q (op_move rfl) trivial rfl ?_
  refine .q (op_call (U := []) [] [] (wname_ev ((splitC (textD i 4096).2).getD j []) (by have := splitC_get (textD i 4096).2 j; omega)) Tryd.func37 (by kernel_rfl) rfl rfl rfl (⟨⟨_, rfl, rfl, rfl⟩, trivial⟩) (trivial) (trivial) (trivial) rfl) trivial rfl ?_
  refine .q (op_notB rfl) trivial rfl ?_
  refine .nil ?_
  show Ev _ _ _ _ _
  refine .cond_false rfl (by rw [all_get h (show j < _ by omega)]; rfl) ?_
  refine .skip ?_
  show Ev _ _ _ _ _
  refine .region ?_
  refine .q (op_addI rfl rfl ⟨by omega, by omega⟩) trivial rfl ?_
  refine .q (op_move rfl) trivial rfl ?_
  refine .nil ?_
  exact ⟨⟨j + 1, by omega⟩, by (try dsimp only); omega, StLe.mk [] rfl rfl ⟨⟨_, rfl, by first | rfl | (simp only [AV.ren]; congr 1; omega), rfl⟩, ⟨_, rfl, by first | rfl | (simp only [AV.ren]; congr 1; omega), rfl⟩, ⟨_, rfl, by first | rfl | (simp only [AV.ren]; congr 1; omega), rfl⟩, ⟨_, rfl, by first | rfl | (simp only [AV.ren]; congr 1; omega), rfl⟩, ⟨_, rfl, by first | rfl | (simp only [AV.ren]; congr 1; omega), rfl⟩, trivial⟩ ⟨⟨_, _, rfl, rfl, rfl, rfl, id, rfl⟩, ⟨_, _, rfl, rfl, rfl, rfl, id, rfl⟩, trivial⟩⟩
 ·simp only [decide_eq_false_iff_not] at hc16
  refine .exit ?_
  show Ev _ _ _ _ _
  refine .seq ?_
  refine .region ?_
  refine .q (op_move rfl) trivial rfl ?_
  refine .q (op_assign rfl) trivial rfl ?_
  refine .nil ?_
  show Ev _ _ _ _ _
  refine .ret ?_
  show RetOk _ _ _ _ _ _ _
  exact ret1v rfl (.inl rfl) rfl rfl ⟨rfl, trivial⟩
set_option maxRecDepth 100000 in
theorem namesd_bad (i : DI) (hr : i.r.length ≤ 90000000) (h0 : ¬ (textD i 4096).2 = []) (b : Nat) (hb : b < (splitC (textD i 4096).2).length) (hbad : nameOk ((splitC (textD i 4096).2).getD b []) = false) (eo : Nat → Nat × Nat) : Meets Tryd.prog 52 [.ptr 500 0] [(500, some ⟨.agg [.str (i).r, .err 131 ((i).e) (offE eo ((i).e))], 93, true⟩), (1, some ⟨.agg [.err 131 (2) (offE eo (2))], errT, false⟩), (3, some ⟨.agg [.err 131 (4) (offE eo (4))], errT, false⟩), (2, some ⟨.agg [.err 131 (3) (offE eo (3))], errT, false⟩)] (.dsl []) [(500, some ⟨.agg [.str (failD (textD i 4096).1 3).r, .err 131 ((failD (textD i 4096).1 3).e) (offE eo ((failD (textD i 4096).1 3).e))], 93, true⟩)] := by
 have hl := (textD_len_le i 4096).1
 have hn : (splitC (textD i 4096).2).length ≤ 90000001 := by
  rw [splitC_len]; have := List.count_le_length (a := (44 : UInt8)) (l := (textD i 4096).2); omega
 refine meets_of_ev (nt := 27) Tryd.func52 rfl rfl (Nat.le_of_ble_eq_true rfl) ?_
 refine .seq ?_
 refine .region ?_
 refine .q (op_assign rfl) trivial rfl ?_
 refine .nil ?_
 show Ev _ _ _ _ _
 refine .seq ?_
 refine .region ?_
 refine .q (op_move rfl) trivial rfl ?_
 refine .a (op_call (U := [(500, some ⟨.agg [.str ((textD i 4096).1).r, .err 131 (((textD i 4096).1).e) (offE eo (((textD i 4096).1).e))], 93, true⟩)]) [(500, 500)] [] (itext_ev i 4096 eo) Tryd.func53 (by kernel_rfl) rfl rfl rfl (⟨⟨_, rfl, rfl, rfl⟩, ⟨_, rfl, rfl, rfl⟩, trivial⟩) (⟨⟨_, _, rfl, rfl, rfl, rfl, id, rfl⟩, ⟨_, _, rfl, rfl, rfl, rfl, (fun h => by cases h), rfl⟩, ⟨_, _, rfl, rfl, rfl, rfl, (fun h => by cases h), rfl⟩, trivial⟩) (⟨⟨500, _, rfl, rfl, rfl, rfl, .inr ⟨rfl, _, rfl, rfl⟩⟩, trivial⟩) (⟨(fun _ => ⟨500, _, rfl, rfl⟩), (fun h => by cases h), (fun h => by cases h), trivial⟩) rfl) trivial rfl ?_
 refine .q (op_assign rfl) trivial rfl ?_
 refine .nil ?_
 show Ev _ _ _ _ _
 refine .seq ?_
 refine .seq ?_
 refine .region ?_
 refine .q (op_move rfl) trivial rfl ?_
 refine .q (op_eqS rfl rfl rfl) trivial rfl ?_
 refine .nil ?_
 show Ev _ _ _ _ _
 refine .cond_false rfl (beq_eq_false_iff_ne.2 h0) ?_
 refine .skip ?_
 show Ev _ _ _ _ _
 refine .seq ?_
 refine .region ?_
 refine .q (op_move rfl) trivial rfl ?_
 refine .a (op_call (U := [(1008, some ⟨.aggS (splitC (textD i 4096).2), 9, true⟩)]) [] [(1008, 1000)] (split_ev (textD i 4096).2 (by omega)) Tryd.func65 (by kernel_rfl) rfl rfl rfl (⟨⟨_, rfl, rfl, rfl⟩, ⟨_, rfl, rfl, rfl⟩, trivial⟩) (trivial) (⟨⟨1000, _, rfl, rfl, rfl, rfl, .inl rfl⟩, trivial⟩) (trivial) rfl) trivial rfl ?_
 refine .q (op_assign rfl) trivial rfl ?_
 refine .nil ?_
 show Ev _ _ _ _ _
 refine .seq ?_
 refine .seq ?_
 refine Ev.freeze (t := 4) (b := 1008) (o := 0) (n := (splitC (textD i 4096).2).length) (e := 9) (L := splitC (textD i 4096).2) (Nat.le_of_ble_eq_true rfl) rfl rfl (by omega) ?_
 refine Ev.asR (T1 := []) (.dsl (splitC (textD i 4096).2)) (fun E y h => by rw [List.drop_zero, List.take_length] at h; exact h) ?_
 show Ev _ _ _ _ _
 refine .region ?_
 refine .q (op_move rfl) trivial rfl ?_
 refine .q (op_len_dsl Tryd.underlying23 rfl) trivial rfl ?_
 refine .q (op_move rfl) trivial rfl ?_
 refine .nil ?_
 show Ev _ _ _ _ _
 refine .block ?_
 refine Ev.loop (ι := { j : Nat // j ≤ b }) (fun q => ⟨[(0, .ptr 500 0), (4, .dsl (splitC (textD i 4096).2)), (13, .dsl (splitC (textD i 4096).2)), (14, .i64 ((splitC (textD i 4096).2).length : Int)), (15, .i64 (q.1 : Int))], [(500, some ⟨.agg [.str ((textD i 4096).1).r, .err 131 (((textD i 4096).1).e) (offE eo (((textD i 4096).1).e))], 93, true⟩), (2, some ⟨.agg [.err 131 (3) (offE eo (3))], errT, false⟩)], 1016⟩) (fun q => b - q.1) ⟨0, Nat.zero_le _⟩ (StLe.mk [] rfl rfl ⟨⟨_, rfl, by first | rfl | (simp only [AV.ren]; congr 1; omega), rfl⟩, ⟨_, rfl, by first | rfl | (simp only [AV.ren]; congr 1; omega), rfl⟩, ⟨_, rfl, by first | rfl | (simp only [AV.ren]; congr 1; omega), rfl⟩, ⟨_, rfl, by first | rfl | (simp only [AV.ren]; congr 1; omega), rfl⟩, ⟨_, rfl, by first | rfl | (simp only [AV.ren]; congr 1; omega), rfl⟩, trivial⟩ ⟨⟨_, _, rfl, rfl, rfl, rfl, id, rfl⟩, ⟨_, _, rfl, rfl, rfl, rfl, id, rfl⟩, trivial⟩) ?_
 rintro ⟨j, hj⟩
 try dsimp only
 refine .seq ?_
 refine .region ?_
 refine .q (op_cmpI rfl rfl rfl) trivial rfl ?_
 refine .nil ?_
 show Ev _ _ _ _ _
 refine .seq ?_
 refine .cond_true rfl (decide_eq_true (by omega)) ?_
 refine .skip ?_
 show Ev _ _ _ _ _
 refine .seq ?_
 refine .block ?_
 refine .seq ?_
 refine .region ?_
 refine .q (op_indexAddr_dsl Tryd.underlying23 inf9.sz rfl rfl rfl (by omega)) trivial rfl ?_
 refine .q (op_load_dptr Tryd.underlying9 rfl rfl (drop_get (by omega))) trivial rfl ?_
 refine .q (op_assign rfl) trivial rfl ?_
 refine .nil ?_
 show Ev _ _ _ _ _
 refine .seq ?_
 refine .region ?_
 refine .q (op_move rfl) trivial rfl ?_
 refine .q (op_call (U := []) [] [] (wname_ev ((splitC (textD i 4096).2).getD j []) (by have := splitC_get (textD i 4096).2 j; omega)) Tryd.func37 (by kernel_rfl) rfl rfl rfl (⟨⟨_, rfl, rfl, rfl⟩, trivial⟩) (trivial) (trivial) (trivial) rfl) trivial rfl ?_
 refine .q (op_notB rfl) trivial rfl ?_
 refine .nil ?_
 show Ev _ _ _ _ _
 refine .cond rfl (fun hc21 => ?_) (fun hc21 => ?_)
 ·skip
  refine .seq ?_
  refine .region ?_
  refine .q (op_move rfl) trivial rfl ?_
  refine .q (op_load Tryd.underlying33 rfl rfl rfl rfl (by first | omega | (simp only [AV.len]; omega) | (simp only [AV.len]; omega) | assumption | (simp [AV.len]; done))) trivial rfl ?_
  refine .a (op_call (U := [(500, some ⟨.agg [.str (failD (textD i 4096).1 3).r, .err 131 ((failD (textD i 4096).1 3).e) (offE eo ((failD (textD i 4096).1 3).e))], 93, true⟩)]) [(500, 500)] [] (fail_ev (textD i 4096).1 3 eo) Tryd.func56 (by kernel_rfl) rfl rfl rfl (⟨⟨_, rfl, rfl, rfl⟩, ⟨_, rfl, rfl, rfl⟩, trivial⟩) (⟨⟨_, _, rfl, rfl, rfl, rfl, id, rfl⟩, trivial⟩) (⟨⟨500, _, rfl, rfl, rfl, rfl, .inr ⟨rfl, _, rfl, rfl⟩⟩, trivial⟩) (⟨(fun _ => ⟨500, _, rfl, rfl⟩), trivial⟩) rfl) trivial rfl ?_
  refine .nil ?_
  show Ev _ _ _ _ _
  refine .seq ?_
  refine .region ?_
  refine .q (op_assign rfl) trivial rfl ?_
  refine .asR (.dsl []) nil_dsl ?_
  refine .nil ?_
  show Ev _ _ _ _ _
  refine .ret ?_
  show RetOk _ _ _ _ _ _ _
  exact ret1v rfl (.inl rfl) rfl rfl ⟨rfl, trivial⟩
 ·skip
  refine .skip ?_
  show Ev _ _ _ _ _
  refine .region ?_
  refine .q (op_addI rfl rfl ⟨by omega, by omega⟩) trivial rfl ?_
  refine .q (op_move rfl) trivial rfl ?_
  refine .nil ?_
  exact ⟨⟨j + 1, (by have : j ≠ b := fun e => (by subst e; rw [hbad] at hc21; cases hc21); omega)⟩, by (try dsimp only); first | omega | (have : j ≠ b := fun e => (by subst e; rw [hbad] at hc21; cases hc21); omega), StLe.mk [] rfl rfl ⟨⟨_, rfl, by first | rfl | (simp only [AV.ren]; congr 1; omega), rfl⟩, ⟨_, rfl, by first | rfl | (simp only [AV.ren]; congr 1; omega), rfl⟩, ⟨_, rfl, by first | rfl | (simp only [AV.ren]; congr 1; omega), rfl⟩, ⟨_, rfl, by first | rfl | (simp only [AV.ren]; congr 1; omega), rfl⟩, ⟨_, rfl, by first | rfl | (simp only [AV.ren]; congr 1; omega), rfl⟩, trivial⟩ ⟨⟨_, _, rfl, rfl, rfl, rfl, id, rfl⟩, ⟨_, _, rfl, rfl, rfl, rfl, id, rfl⟩, trivial⟩⟩
theorem namesd_ev (i : DI) (hr : i.r.length ≤ 90000000) (eo : Nat → Nat × Nat) : Meets Tryd.prog 52 [.ptr 500 0] [(500, some ⟨.agg [.str (i).r, .err 131 ((i).e) (offE eo ((i).e))], 93, true⟩), (1, some ⟨.agg [.err 131 (2) (offE eo (2))], errT, false⟩), (3, some ⟨.agg [.err 131 (4) (offE eo (4))], errT, false⟩), (2, some ⟨.agg [.err 131 (3) (offE eo (3))], errT, false⟩)] (.dsl (namesD i).2) [(500, some ⟨.agg [.str ((namesD i).1).r, .err 131 (((namesD i).1).e) (offE eo (((namesD i).1).e))], 93, true⟩)] := by
 unfold namesD
 by_cases h0 : (textD i 4096).2 = []
 ·rw [if_pos h0]; exact namesd_nil i hr h0 eo
 ·rw [if_neg h0]
  by_cases h : (splitC (textD i 4096).2).all nameOk = true
  ·rw [if_pos h]; exact namesd_ok i hr h0 h eo
  ·rw [if_neg h]
   obtain ⟨b, hb, hbad⟩ := not_all h
   exact namesd_bad i hr h0 b hb hbad eo
end Go.Proofs.YtenocbhlbgcnfaaDoor
namespace Go.Proofs.YtenocbhlbgcnfaaDoor
open Go.RowKit
/-- A message's cells: its kind, and four lists, of which it is not said whether they are nil. -/
def msgO (k : Int) (a na b nb c nc d nd : Nat) : AV := .agg [.i64 k, slO a na 1, slO b nb 1, slO c nc 1, slO d nd 1]
theorem msgO_ren (f : Nat → Nat) (k : Int) (a na b nb c nc d nd : Nat) : (msgO k a na b nb c nc d nd).ren f = msgO k (f a) na (f b) nb (f c) nc (f d) nd := by
  show AV.agg [.i64 k, (slO a na 1).ren f, (slO b nb 1).ren f, (slO c nc 1).ren f, (slO d nd 1).ren f] = _
  rw [slO_ren, slO_ren, slO_ren, slO_ren]; rfl
set_option maxRecDepth 100000 in
theorem geto_u (i : DI) (k : Int) (us : List UInt32) (hl : us.length ≤ 1000) (cs cn cb : Nat) (eo : Nat → Nat × Nat) : Meets Tryd.prog 30 [.ptr 500 0, .u8 117, .ptr 510 0] [(500, some ⟨.agg [.str (i).r, .err 131 ((i).e) (offE eo ((i).e))], 93, true⟩), (510, some ⟨msgO k 511 us.length 512 cs 513 cn 514 cb, 30, true⟩), (511, opt (.agg32 us) us.length 42), (1, some ⟨.agg [.err 131 (2) (offE eo (2))], errT, false⟩)] (.tup []) [(500, some ⟨.agg [.str ((u32D (i)).1).r, .err 131 (((u32D (i)).1).e) (offE eo (((u32D (i)).1).e))], 93, true⟩), (510, some ⟨msgO k 1064 (us.length + 1) 512 cs 513 cn 514 cb, 30, true⟩), (1064, some ⟨.agg32 (us ++ [(u32D (i)).2]), 42, true⟩)] := by
 refine meets_of_ev (nt := 87) Tryd.func30 rfl rfl (Nat.le_of_ble_eq_true rfl) ?_
 refine .seq ?_
 refine .region ?_
 refine .q (op_move rfl) trivial rfl ?_
 refine .nil ?_
 show Ev _ _ _ _ _
 refine .block ?_
 refine .seq ?_
 refine .region ?_
 refine .q (op_bin8 rfl rfl rfl) trivial rfl ?_
 refine .q (op_assign rfl) trivial rfl ?_
 refine .nil ?_
 show Ev _ _ _ _ _
 refine .cond_true rfl (rfl) ?_
 refine .drawnF [[], [], [1], [1, 2], [1, 2, 3], [], [5], [5, 6], [1, 2, 3, 4, 5, 6, 7], [0, 1, 2, 3, 4, 5, 6, 7, 8], [0, 1, 2, 3, 4, 5, 6, 7, 8, 9], [0, 1, 2, 3, 4, 5, 6, 7, 8, 9, 10]] [4, 6, 7, 8, 11] [] [(4, ([510], [])), (6, ([1], [500])), (7, ([], [])), (8, ([1056], [511])), (11, ([], [510]))] (by kernel_rfl) (by kernel_rfl) rfl ?_
 show DK _ [0, 1, 2, 3, 4, 5, 6, 7, 8, 9, 10, 11] _ _ _
 refine .q rfl (op_move rfl) trivial ?_
 refine .q rfl (op_move rfl) trivial ?_
 refine .q rfl (op_nilCheck rfl) trivial ?_
 refine .q rfl (op_fieldAddr (m := 0) Tryd.underlying30 rfl (by kernel_rfl) rfl) trivial ?_
 refine .as (.ptr 510 1) rfl ?_
 refine .q rfl (op_load Tryd.underlying22 rfl rfl rfl rfl (by show _ < 5; decide)) trivial ?_
 refine .q rfl (op_move rfl) trivial ?_
 refine .a rfl (op_call (U := [(500, some ⟨.agg [.str ((u32D (i)).1).r, .err 131 (((u32D (i)).1).e) (offE eo (((u32D (i)).1).e))], 93, true⟩)]) [(500, 500)] [] (iu32_ev i eo) Tryd.func50 (by kernel_rfl) rfl rfl rfl (⟨⟨_, rfl, rfl, rfl⟩, trivial⟩) (⟨⟨_, _, rfl, rfl, rfl, rfl, id, rfl⟩, ⟨_, _, rfl, rfl, rfl, rfl, (fun h => by cases h), rfl⟩, trivial⟩) (⟨⟨500, _, rfl, rfl, rfl, rfl, .inr ⟨rfl, _, rfl, rfl⟩⟩, trivial⟩) (⟨(fun _ => ⟨500, _, rfl, rfl⟩), (fun h => by cases h), trivial⟩) rfl) trivial rfl rfl ?_
 refine .a rfl (ap_build (us := [_]) (c := .agg32 [_]) Tryd.underlying22 inf42 rfl (by decide) (by decide) ⟨rfl, rfl, rfl, trivial⟩ rfl) trivial rfl rfl ?_
 refine .a rfl (ap_append_slO (c := .agg32 us) (c' := .agg32 (us ++ [(u32D (i)).2])) Tryd.underlying22 Tryd.underlying22 (.inr ⟨_, rfl⟩) inf42 rfl (fun _ h => h) (by show us.length = us.length * 1; omega) (srcs_sl (b := 1056) (o := 0) (m := 1) (z := 1) (k := ⟨.agg32 [(u32D (i)).2], 42, true⟩) rfl rfl (Nat.le_refl 1) rfl) (by show (us ++ [(u32D (i)).2]).map _ = _; rw [List.map_append]; rfl) (by decide) (Nat.le_of_ble_eq_true rfl) (by omega)) trivial rfl rfl ?_
 refine .q rfl (op_nilCheck rfl) trivial ?_
 refine .q rfl (op_fieldAddr (m := 0) Tryd.underlying30 rfl (by kernel_rfl) rfl) trivial ?_
 refine .as (.ptr 510 1) rfl ?_
 refine .w rfl (op_store (by kernel_rfl) rfl rfl rfl rfl rfl (by show _ < 5; decide)) trivial rfl rfl ?_
 refine .nil ?_
 show RetOk _ _ _ _ _ _ _
 exact ret0 rfl (.inr rfl) ⟨rfl, rfl, rfl, trivial⟩
set_option maxRecDepth 100000 in
theorem geto_b (i : DI) (k : Int) (bs : List Bool) (hl : bs.length ≤ 1000) (cu cs cn : Nat) (eo : Nat → Nat × Nat) : Meets Tryd.prog 30 [.ptr 500 0, .u8 98, .ptr 510 0] [(500, some ⟨.agg [.str (i).r, .err 131 ((i).e) (offE eo ((i).e))], 93, true⟩), (510, some ⟨msgO k 511 cu 512 cs 513 cn 514 bs.length, 30, true⟩), (514, opt (.aggT bs) bs.length 4), (1, some ⟨.agg [.err 131 (2) (offE eo (2))], errT, false⟩)] (.tup []) [(500, some ⟨.agg [.str ((boolD (i)).1).r, .err 131 (((boolD (i)).1).e) (offE eo (((boolD (i)).1).e))], 93, true⟩), (510, some ⟨msgO k 511 cu 512 cs 513 cn 1064 (bs.length + 1), 30, true⟩), (1064, some ⟨.aggT (bs ++ [(boolD (i)).2]), 4, true⟩)] := by
 refine meets_of_ev (nt := 87) Tryd.func30 rfl rfl (Nat.le_of_ble_eq_true rfl) ?_
 refine .seq ?_
 refine .region ?_
 refine .q (op_move rfl) trivial rfl ?_
 refine .nil ?_
 show Ev _ _ _ _ _
 refine .block ?_
 refine .seq ?_
 refine .region ?_
 refine .q (op_bin8 rfl rfl rfl) trivial rfl ?_
 refine .q (op_assign rfl) trivial rfl ?_
 refine .nil ?_
 show Ev _ _ _ _ _
 refine .cond_false rfl (rfl) ?_
 refine .seq ?_
 refine .region ?_
 refine .q (op_bin8 rfl rfl rfl) trivial rfl ?_
 refine .q (op_assign rfl) trivial rfl ?_
 refine .nil ?_
 show Ev _ _ _ _ _
 refine .cond_true rfl (rfl) ?_
 refine .drawnF [[], [], [1], [1, 2], [1, 2, 3], [], [5], [5, 6], [1, 2, 3, 4, 5, 6, 7], [0, 1, 2, 3, 4, 5, 6, 7, 8], [0, 1, 2, 3, 4, 5, 6, 7, 8, 9], [0, 1, 2, 3, 4, 5, 6, 7, 8, 9, 10]] [4, 6, 7, 8, 11] [] [(4, ([510], [])), (6, ([1], [500])), (7, ([], [])), (8, ([1056], [514])), (11, ([], [510]))] (by kernel_rfl) (by kernel_rfl) rfl ?_
 show DK _ [0, 1, 2, 3, 4, 5, 6, 7, 8, 9, 10, 11] _ _ _
 refine .q rfl (op_move rfl) trivial ?_
 refine .q rfl (op_move rfl) trivial ?_
 refine .q rfl (op_nilCheck rfl) trivial ?_
 refine .q rfl (op_fieldAddr (m := 0) Tryd.underlying30 rfl (by kernel_rfl) rfl) trivial ?_
 refine .as (.ptr 510 4) rfl ?_
 refine .q rfl (op_load Tryd.underlying25 rfl rfl rfl rfl (by show _ < 5; decide)) trivial ?_
 refine .q rfl (op_move rfl) trivial ?_
 refine .a rfl (op_call (U := [(500, some ⟨.agg [.str ((boolD (i)).1).r, .err 131 (((boolD (i)).1).e) (offE eo (((boolD (i)).1).e))], 93, true⟩)]) [(500, 500)] [] (ibool_ev i eo) Tryd.func51 (by kernel_rfl) rfl rfl rfl (⟨⟨_, rfl, rfl, rfl⟩, trivial⟩) (⟨⟨_, _, rfl, rfl, rfl, rfl, id, rfl⟩, ⟨_, _, rfl, rfl, rfl, rfl, (fun h => by cases h), rfl⟩, trivial⟩) (⟨⟨500, _, rfl, rfl, rfl, rfl, .inr ⟨rfl, _, rfl, rfl⟩⟩, trivial⟩) (⟨(fun _ => ⟨500, _, rfl, rfl⟩), (fun h => by cases h), trivial⟩) rfl) trivial rfl rfl ?_
 refine .a rfl (ap_build (us := [_]) (c := .aggT [_]) Tryd.underlying25 inf4 rfl (by decide) (by decide) ⟨rfl, rfl, rfl, trivial⟩ rfl) trivial rfl rfl ?_
 refine .a rfl (ap_append_slO (c := .aggT bs) (c' := .aggT (bs ++ [(boolD (i)).2])) Tryd.underlying25 Tryd.underlying25 (.inr ⟨_, rfl⟩) inf4 rfl (fun _ h => h) (by show bs.length = bs.length * 1; omega) (srcs_sl (b := 1056) (o := 0) (m := 1) (z := 1) (k := ⟨.aggT [(boolD (i)).2], 4, true⟩) rfl rfl (Nat.le_refl 1) rfl) (by show (bs ++ [(boolD (i)).2]).map _ = _; rw [List.map_append]; rfl) (by decide) (Nat.le_of_ble_eq_true rfl) (by omega)) trivial rfl rfl ?_
 refine .q rfl (op_nilCheck rfl) trivial ?_
 refine .q rfl (op_fieldAddr (m := 0) Tryd.underlying30 rfl (by kernel_rfl) rfl) trivial ?_
 refine .as (.ptr 510 4) rfl ?_
 refine .w rfl (op_store (by kernel_rfl) rfl rfl rfl rfl rfl (by show _ < 5; decide)) trivial rfl rfl ?_
 refine .nil ?_
 show RetOk _ _ _ _ _ _ _
 exact ret0 rfl (.inr rfl) ⟨rfl, rfl, rfl, trivial⟩
set_option maxRecDepth 100000 in
theorem geto_s (i : DI) (k : Int) (ss : List (List UInt8)) (hl : ss.length ≤ 1000) (cu cn cb : Nat) (eo : Nat → Nat × Nat) : Meets Tryd.prog 30 [.ptr 500 0, .u8 115, .ptr 510 0] [(500, some ⟨.agg [.str (i).r, .err 131 ((i).e) (offE eo ((i).e))], 93, true⟩), (510, some ⟨msgO k 511 cu 512 ss.length 513 cn 514 cb, 30, true⟩), (512, opt (.aggS ss) ss.length 9), (1, some ⟨.agg [.err 131 (2) (offE eo (2))], errT, false⟩), (3, some ⟨.agg [.err 131 (4) (offE eo (4))], errT, false⟩)] (.tup []) [(500, some ⟨.agg [.str ((textD (i) 32768).1).r, .err 131 (((textD (i) 32768).1).e) (offE eo (((textD (i) 32768).1).e))], 93, true⟩), (510, some ⟨msgO k 511 cu 1064 (ss.length + 1) 513 cn 514 cb, 30, true⟩), (1064, some ⟨.aggS (ss ++ [(textD (i) 32768).2]), 9, true⟩)] := by
 refine meets_of_ev (nt := 87) Tryd.func30 rfl rfl (Nat.le_of_ble_eq_true rfl) ?_
 refine .seq ?_
 refine .region ?_
 refine .q (op_move rfl) trivial rfl ?_
 refine .nil ?_
 show Ev _ _ _ _ _
 refine .block ?_
 refine .seq ?_
 refine .region ?_
 refine .q (op_bin8 rfl rfl rfl) trivial rfl ?_
 refine .q (op_assign rfl) trivial rfl ?_
 refine .nil ?_
 show Ev _ _ _ _ _
 refine .cond_false rfl (rfl) ?_
 refine .seq ?_
 refine .region ?_
 refine .q (op_bin8 rfl rfl rfl) trivial rfl ?_
 refine .q (op_assign rfl) trivial rfl ?_
 refine .nil ?_
 show Ev _ _ _ _ _
 refine .cond_false rfl (rfl) ?_
 refine .seq ?_
 refine .region ?_
 refine .q (op_bin8 rfl rfl rfl) trivial rfl ?_
 refine .q (op_assign rfl) trivial rfl ?_
 refine .nil ?_
 show Ev _ _ _ _ _
 refine .cond_false rfl (rfl) ?_
 refine .seq ?_
 refine .region ?_
 refine .q (op_bin8 rfl rfl rfl) trivial rfl ?_
 refine .q (op_assign rfl) trivial rfl ?_
 refine .nil ?_
 show Ev _ _ _ _ _
 refine .cond_true rfl (rfl) ?_
 refine .drawnF [[], [], [1], [1, 2], [1, 2, 3], [], [5], [5, 6], [1, 2, 3, 4, 5, 6, 7], [0, 1, 2, 3, 4, 5, 6, 7, 8], [0, 1, 2, 3, 4, 5, 6, 7, 8, 9], [0, 1, 2, 3, 4, 5, 6, 7, 8, 9, 10]] [4, 6, 7, 8, 11] [] [(4, ([510], [])), (6, ([1, 3], [500])), (7, ([], [])), (8, ([1056], [512])), (11, ([], [510]))] (by kernel_rfl) (by kernel_rfl) rfl ?_
 show DK _ [0, 1, 2, 3, 4, 5, 6, 7, 8, 9, 10, 11] _ _ _
 refine .q rfl (op_move rfl) trivial ?_
 refine .q rfl (op_move rfl) trivial ?_
 refine .q rfl (op_nilCheck rfl) trivial ?_
 refine .q rfl (op_fieldAddr (m := 0) Tryd.underlying30 rfl (by kernel_rfl) rfl) trivial ?_
 refine .as (.ptr 510 2) rfl ?_
 refine .q rfl (op_load Tryd.underlying23 rfl rfl rfl rfl (by show _ < 5; decide)) trivial ?_
 refine .q rfl (op_move rfl) trivial ?_
 refine .a rfl (op_call (U := [(500, some ⟨.agg [.str ((textD (i) 32768).1).r, .err 131 (((textD (i) 32768).1).e) (offE eo (((textD (i) 32768).1).e))], 93, true⟩)]) [(500, 500)] [] (itext_ev i 32768 eo) Tryd.func53 (by kernel_rfl) rfl rfl rfl (⟨⟨_, rfl, rfl, rfl⟩, ⟨_, rfl, rfl, rfl⟩, trivial⟩) (⟨⟨_, _, rfl, rfl, rfl, rfl, id, rfl⟩, ⟨_, _, rfl, rfl, rfl, rfl, (fun h => by cases h), rfl⟩, ⟨_, _, rfl, rfl, rfl, rfl, (fun h => by cases h), rfl⟩, trivial⟩) (⟨⟨500, _, rfl, rfl, rfl, rfl, .inr ⟨rfl, _, rfl, rfl⟩⟩, trivial⟩) (⟨(fun _ => ⟨500, _, rfl, rfl⟩), (fun h => by cases h), (fun h => by cases h), trivial⟩) rfl) trivial rfl rfl ?_
 refine .a rfl (ap_build (us := [_]) (c := .aggS [_]) Tryd.underlying23 inf9 rfl (by decide) (by decide) ⟨rfl, rfl, rfl, trivial⟩ rfl) trivial rfl rfl ?_
 refine .a rfl (ap_append_slO (c := .aggS ss) (c' := .aggS (ss ++ [(textD (i) 32768).2])) Tryd.underlying23 Tryd.underlying23 (.inr ⟨_, rfl⟩) inf9 rfl (fun _ h => h) (by show ss.length = ss.length * 1; omega) (srcs_sl (b := 1056) (o := 0) (m := 1) (z := 1) (k := ⟨.aggS [(textD (i) 32768).2], 9, true⟩) rfl rfl (Nat.le_refl 1) rfl) (by show (ss ++ [(textD (i) 32768).2]).map _ = _; rw [List.map_append]; rfl) (by decide) (Nat.le_of_ble_eq_true rfl) (by omega)) trivial rfl rfl ?_
 refine .q rfl (op_nilCheck rfl) trivial ?_
 refine .q rfl (op_fieldAddr (m := 0) Tryd.underlying30 rfl (by kernel_rfl) rfl) trivial ?_
 refine .as (.ptr 510 2) rfl ?_
 refine .w rfl (op_store (by kernel_rfl) rfl rfl rfl rfl rfl (by show _ < 5; decide)) trivial rfl rfl ?_
 refine .nil ?_
 show RetOk _ _ _ _ _ _ _
 exact ret0 rfl (.inr rfl) ⟨rfl, rfl, rfl, trivial⟩
set_option maxRecDepth 100000 in
theorem geto_c (i : DI) (k : Int) (ss : List (List UInt8)) (hl : ss.length ≤ 1000) (cu cn cb : Nat) (eo : Nat → Nat × Nat) : Meets Tryd.prog 30 [.ptr 500 0, .u8 99, .ptr 510 0] [(500, some ⟨.agg [.str (i).r, .err 131 ((i).e) (offE eo ((i).e))], 93, true⟩), (510, some ⟨msgO k 511 cu 512 ss.length 513 cn 514 cb, 30, true⟩), (512, opt (.aggS ss) ss.length 9), (1, some ⟨.agg [.err 131 (2) (offE eo (2))], errT, false⟩)] (.tup []) [(500, some ⟨.agg [.str ((rawD (i) 16).1).r, .err 131 (((rawD (i) 16).1).e) (offE eo (((rawD (i) 16).1).e))], 93, true⟩), (510, some ⟨msgO k 511 cu 1064 (ss.length + 1) 513 cn 514 cb, 30, true⟩), (1064, some ⟨.aggS (ss ++ [(rawD (i) 16).2]), 9, true⟩)] := by
 refine meets_of_ev (nt := 87) Tryd.func30 rfl rfl (Nat.le_of_ble_eq_true rfl) ?_
 refine .seq ?_
 refine .region ?_
 refine .q (op_move rfl) trivial rfl ?_
 refine .nil ?_
 show Ev _ _ _ _ _
 refine .block ?_
 refine .seq ?_
 refine .region ?_
 refine .q (op_bin8 rfl rfl rfl) trivial rfl ?_
 refine .q (op_assign rfl) trivial rfl ?_
 refine .nil ?_
 show Ev _ _ _ _ _
 refine .cond_false rfl (rfl) ?_
 refine .seq ?_
 refine .region ?_
 refine .q (op_bin8 rfl rfl rfl) trivial rfl ?_
 refine .q (op_assign rfl) trivial rfl ?_
 refine .nil ?_
 show Ev _ _ _ _ _
 refine .cond_false rfl (rfl) ?_
 refine .seq ?_
 refine .region ?_
 refine .q (op_bin8 rfl rfl rfl) trivial rfl ?_
 refine .q (op_assign rfl) trivial rfl ?_
 refine .nil ?_
 show Ev _ _ _ _ _
 refine .cond_false rfl (rfl) ?_
 refine .seq ?_
 refine .region ?_
 refine .q (op_bin8 rfl rfl rfl) trivial rfl ?_
 refine .q (op_assign rfl) trivial rfl ?_
 refine .nil ?_
 show Ev _ _ _ _ _
 refine .cond_false rfl (rfl) ?_
 refine .seq ?_
 refine .region ?_
 refine .q (op_bin8 rfl rfl rfl) trivial rfl ?_
 refine .q (op_assign rfl) trivial rfl ?_
 refine .nil ?_
 show Ev _ _ _ _ _
 refine .cond_true rfl (rfl) ?_
 refine .drawnF [[], [], [1], [1, 2], [1, 2, 3], [], [5], [5, 6], [1, 2, 3, 4, 5, 6, 7], [0, 1, 2, 3, 4, 5, 6, 7, 8], [0, 1, 2, 3, 4, 5, 6, 7, 8, 9], [0, 1, 2, 3, 4, 5, 6, 7, 8, 9, 10]] [4, 6, 7, 8, 11] [] [(4, ([510], [])), (6, ([1], [500])), (7, ([], [])), (8, ([1056], [512])), (11, ([], [510]))] (by kernel_rfl) (by kernel_rfl) rfl ?_
 show DK _ [0, 1, 2, 3, 4, 5, 6, 7, 8, 9, 10, 11] _ _ _
 refine .q rfl (op_move rfl) trivial ?_
 refine .q rfl (op_move rfl) trivial ?_
 refine .q rfl (op_nilCheck rfl) trivial ?_
 refine .q rfl (op_fieldAddr (m := 0) Tryd.underlying30 rfl (by kernel_rfl) rfl) trivial ?_
 refine .as (.ptr 510 2) rfl ?_
 refine .q rfl (op_load Tryd.underlying23 rfl rfl rfl rfl (by show _ < 5; decide)) trivial ?_
 refine .q rfl (op_move rfl) trivial ?_
 refine .a rfl (op_call (U := [(500, some ⟨.agg [.str ((rawD (i) 16).1).r, .err 131 (((rawD (i) 16).1).e) (offE eo (((rawD (i) 16).1).e))], 93, true⟩)]) [(500, 500)] [] (raw_ev i 16 eo) Tryd.func54 (by kernel_rfl) rfl rfl rfl (⟨⟨_, rfl, rfl, rfl⟩, ⟨_, rfl, rfl, rfl⟩, trivial⟩) (⟨⟨_, _, rfl, rfl, rfl, rfl, id, rfl⟩, ⟨_, _, rfl, rfl, rfl, rfl, (fun h => by cases h), rfl⟩, trivial⟩) (⟨⟨500, _, rfl, rfl, rfl, rfl, .inr ⟨rfl, _, rfl, rfl⟩⟩, trivial⟩) (⟨(fun _ => ⟨500, _, rfl, rfl⟩), (fun h => by cases h), trivial⟩) rfl) trivial rfl rfl ?_
 refine .a rfl (ap_build (us := [_]) (c := .aggS [_]) Tryd.underlying23 inf9 rfl (by decide) (by decide) ⟨rfl, rfl, rfl, trivial⟩ rfl) trivial rfl rfl ?_
 refine .a rfl (ap_append_slO (c := .aggS ss) (c' := .aggS (ss ++ [(rawD (i) 16).2])) Tryd.underlying23 Tryd.underlying23 (.inr ⟨_, rfl⟩) inf9 rfl (fun _ h => h) (by show ss.length = ss.length * 1; omega) (srcs_sl (b := 1056) (o := 0) (m := 1) (z := 1) (k := ⟨.aggS [(rawD (i) 16).2], 9, true⟩) rfl rfl (Nat.le_refl 1) rfl) (by show (ss ++ [(rawD (i) 16).2]).map _ = _; rw [List.map_append]; rfl) (by decide) (Nat.le_of_ble_eq_true rfl) (by omega)) trivial rfl rfl ?_
 refine .q rfl (op_nilCheck rfl) trivial ?_
 refine .q rfl (op_fieldAddr (m := 0) Tryd.underlying30 rfl (by kernel_rfl) rfl) trivial ?_
 refine .as (.ptr 510 2) rfl ?_
 refine .w rfl (op_store (by kernel_rfl) rfl rfl rfl rfl rfl (by show _ < 5; decide)) trivial rfl rfl ?_
 refine .nil ?_
 show RetOk _ _ _ _ _ _ _
 exact ret0 rfl (.inr rfl) ⟨rfl, rfl, rfl, trivial⟩
set_option maxRecDepth 100000 in
theorem geto_r (i : DI) (k : Int) (ss : List (List UInt8)) (hl : ss.length ≤ 1000) (cu cn cb : Nat) (eo : Nat → Nat × Nat) : Meets Tryd.prog 30 [.ptr 500 0, .u8 114, .ptr 510 0] [(500, some ⟨.agg [.str (i).r, .err 131 ((i).e) (offE eo ((i).e))], 93, true⟩), (510, some ⟨msgO k 511 cu 512 ss.length 513 cn 514 cb, 30, true⟩), (512, opt (.aggS ss) ss.length 9), (1, some ⟨.agg [.err 131 (2) (offE eo (2))], errT, false⟩)] (.tup []) [(500, some ⟨.agg [.str ((rawD (i) (i).r.length).1).r, .err 131 (((rawD (i) (i).r.length).1).e) (offE eo (((rawD (i) (i).r.length).1).e))], 93, true⟩), (510, some ⟨msgO k 511 cu 1080 (ss.length + 1) 513 cn 514 cb, 30, true⟩), (1080, some ⟨.aggS (ss ++ [(rawD (i) (i).r.length).2]), 9, true⟩)] := by
 refine meets_of_ev (nt := 87) Tryd.func30 rfl rfl (Nat.le_of_ble_eq_true rfl) ?_
 refine .seq ?_
 refine .region ?_
 refine .q (op_move rfl) trivial rfl ?_
 refine .nil ?_
 show Ev _ _ _ _ _
 refine .block ?_
 refine .seq ?_
 refine .region ?_
 refine .q (op_bin8 rfl rfl rfl) trivial rfl ?_
 refine .q (op_assign rfl) trivial rfl ?_
 refine .nil ?_
 show Ev _ _ _ _ _
 refine .cond_false rfl (rfl) ?_
 refine .seq ?_
 refine .region ?_
 refine .q (op_bin8 rfl rfl rfl) trivial rfl ?_
 refine .q (op_assign rfl) trivial rfl ?_
 refine .nil ?_
 show Ev _ _ _ _ _
 refine .cond_false rfl (rfl) ?_
 refine .seq ?_
 refine .region ?_
 refine .q (op_bin8 rfl rfl rfl) trivial rfl ?_
 refine .q (op_assign rfl) trivial rfl ?_
 refine .nil ?_
 show Ev _ _ _ _ _
 refine .cond_false rfl (rfl) ?_
 refine .seq ?_
 refine .region ?_
 refine .q (op_bin8 rfl rfl rfl) trivial rfl ?_
 refine .q (op_assign rfl) trivial rfl ?_
 refine .nil ?_
 show Ev _ _ _ _ _
 refine .cond_false rfl (rfl) ?_
 refine .seq ?_
 refine .region ?_
 refine .q (op_bin8 rfl rfl rfl) trivial rfl ?_
 refine .q (op_assign rfl) trivial rfl ?_
 refine .nil ?_
 show Ev _ _ _ _ _
 refine .cond_false rfl (rfl) ?_
 refine .seq ?_
 refine .region ?_
 refine .q (op_bin8 rfl rfl rfl) trivial rfl ?_
 refine .q (op_assign rfl) trivial rfl ?_
 refine .nil ?_
 show Ev _ _ _ _ _
 refine .cond_true rfl (rfl) ?_
 refine .drawnF [[], [], [1], [1, 2], [1, 2, 3], [], [], [6], [5, 6, 7], [5, 6, 7, 8], [1, 2, 3, 4, 5, 6, 7, 8, 9], [0, 1, 2, 3, 4, 5, 6, 7, 8, 9, 10], [0, 1, 2, 3, 4, 5, 6, 7, 8, 9, 10, 11], [0, 1, 2, 3, 4, 5, 6, 7, 8, 9, 10, 11, 12]] [4, 7, 8, 9, 10, 13] [] [(4, ([510], [])), (7, ([500], [])), (8, ([1], [500])), (9, ([], [])), (10, ([1072], [512])), (13, ([], [510]))] (by kernel_rfl) (by kernel_rfl) rfl ?_
 show DK _ [0, 1, 2, 3, 4, 5, 6, 7, 8, 9, 10, 11, 12, 13] _ _ _
 refine .q rfl (op_move rfl) trivial ?_
 refine .q rfl (op_move rfl) trivial ?_
 refine .q rfl (op_nilCheck rfl) trivial ?_
 refine .q rfl (op_fieldAddr (m := 0) Tryd.underlying30 rfl (by kernel_rfl) rfl) trivial ?_
 refine .as (.ptr 510 2) rfl ?_
 refine .q rfl (op_load Tryd.underlying23 rfl rfl rfl rfl (by show _ < 5; decide)) trivial ?_
 refine .q rfl (op_move rfl) trivial ?_
 refine .q rfl (op_move rfl) trivial ?_
 refine .q rfl (op_call (U := []) [(500, 500)] [] (left_ev i eo) Tryd.func55 (by kernel_rfl) rfl rfl rfl (⟨⟨_, rfl, rfl, rfl⟩, trivial⟩) (⟨⟨_, _, rfl, rfl, rfl, rfl, (fun h => by cases h), rfl⟩, trivial⟩) (trivial) (⟨(fun h => by cases h), trivial⟩) rfl) trivial ?_
 refine .a rfl (op_call (U := [(500, some ⟨.agg [.str ((rawD (i) (i).r.length).1).r, .err 131 (((rawD (i) (i).r.length).1).e) (offE eo (((rawD (i) (i).r.length).1).e))], 93, true⟩)]) [(500, 500)] [] (raw_ev i (i.r.length : Int) eo) Tryd.func54 (by kernel_rfl) rfl rfl rfl (⟨⟨_, rfl, rfl, rfl⟩, ⟨_, rfl, rfl, rfl⟩, trivial⟩) (⟨⟨_, _, rfl, rfl, rfl, rfl, id, rfl⟩, ⟨_, _, rfl, rfl, rfl, rfl, (fun h => by cases h), rfl⟩, trivial⟩) (⟨⟨500, _, rfl, rfl, rfl, rfl, .inr ⟨rfl, _, rfl, rfl⟩⟩, trivial⟩) (⟨(fun _ => ⟨500, _, rfl, rfl⟩), (fun h => by cases h), trivial⟩) rfl) trivial rfl rfl ?_
 refine .a rfl (ap_build (us := [_]) (c := .aggS [_]) Tryd.underlying23 inf9 rfl (by decide) (by decide) ⟨rfl, rfl, rfl, trivial⟩ rfl) trivial rfl rfl ?_
 refine .a rfl (ap_append_slO (c := .aggS ss) (c' := .aggS (ss ++ [(rawD (i) (i).r.length).2])) Tryd.underlying23 Tryd.underlying23 (.inr ⟨_, rfl⟩) inf9 rfl (fun _ h => h) (by show ss.length = ss.length * 1; omega) (srcs_sl (b := 1072) (o := 0) (m := 1) (z := 1) (k := ⟨.aggS [(rawD (i) (i).r.length).2], 9, true⟩) rfl rfl (Nat.le_refl 1) rfl) (by show (ss ++ [(rawD (i) (i).r.length).2]).map _ = _; rw [List.map_append]; rfl) (by decide) (Nat.le_of_ble_eq_true rfl) (by omega)) trivial rfl rfl ?_
 refine .q rfl (op_nilCheck rfl) trivial ?_
 refine .q rfl (op_fieldAddr (m := 0) Tryd.underlying30 rfl (by kernel_rfl) rfl) trivial ?_
 refine .as (.ptr 510 2) rfl ?_
 refine .w rfl (op_store (by kernel_rfl) rfl rfl rfl rfl rfl (by show _ < 5; decide)) trivial rfl rfl ?_
 refine .nil ?_
 show RetOk _ _ _ _ _ _ _
 exact ret0 rfl (.inr rfl) ⟨rfl, rfl, rfl, trivial⟩
set_option maxRecDepth 100000 in
theorem geto_n (i : DI) (k : Int) (ns : List (List (List UInt8))) (hl : ns.length ≤ 1000) (cu cs cb : Nat) (hr : i.r.length ≤ 90000000) (eo : Nat → Nat × Nat) : Meets Tryd.prog 30 [.ptr 500 0, .u8 110, .ptr 510 0] [(500, some ⟨.agg [.str (i).r, .err 131 ((i).e) (offE eo ((i).e))], 93, true⟩), (510, some ⟨msgO k 511 cu 512 cs 513 ns.length 514 cb, 30, true⟩), (513, opt (.aggD ns) ns.length 23), (1, some ⟨.agg [.err 131 (2) (offE eo (2))], errT, false⟩), (3, some ⟨.agg [.err 131 (4) (offE eo (4))], errT, false⟩), (2, some ⟨.agg [.err 131 (3) (offE eo (3))], errT, false⟩)] (.tup []) [(500, some ⟨.agg [.str ((namesD (i)).1).r, .err 131 (((namesD (i)).1).e) (offE eo (((namesD (i)).1).e))], 93, true⟩), (510, some ⟨msgO k 511 cu 512 cs 1064 (ns.length + 1) 514 cb, 30, true⟩), (1064, some ⟨.aggD (ns ++ [(namesD (i)).2]), 23, true⟩)] := by
 refine meets_of_ev (nt := 87) Tryd.func30 rfl rfl (Nat.le_of_ble_eq_true rfl) ?_
 refine .seq ?_
 refine .region ?_
 refine .q (op_move rfl) trivial rfl ?_
 refine .nil ?_
 show Ev _ _ _ _ _
 refine .block ?_
 refine .seq ?_
 refine .region ?_
 refine .q (op_bin8 rfl rfl rfl) trivial rfl ?_
 refine .q (op_assign rfl) trivial rfl ?_
 refine .nil ?_
 show Ev _ _ _ _ _
 refine .cond_false rfl (rfl) ?_
 refine .seq ?_
 refine .region ?_
 refine .q (op_bin8 rfl rfl rfl) trivial rfl ?_
 refine .q (op_assign rfl) trivial rfl ?_
 refine .nil ?_
 show Ev _ _ _ _ _
 refine .cond_false rfl (rfl) ?_
 refine .seq ?_
 refine .region ?_
 refine .q (op_bin8 rfl rfl rfl) trivial rfl ?_
 refine .q (op_assign rfl) trivial rfl ?_
 refine .nil ?_
 show Ev _ _ _ _ _
 refine .cond_true rfl (rfl) ?_
 refine .drawnF [[], [], [1], [1, 2], [1, 2, 3], [], [5], [5, 6], [1, 2, 3, 4, 5, 6, 7], [0, 1, 2, 3, 4, 5, 6, 7, 8], [0, 1, 2, 3, 4, 5, 6, 7, 8, 9], [0, 1, 2, 3, 4, 5, 6, 7, 8, 9, 10]] [4, 6, 7, 8, 11] [] [(4, ([510], [])), (6, ([1, 3, 2], [500])), (7, ([], [])), (8, ([1056], [513])), (11, ([], [510]))] (by kernel_rfl) (by kernel_rfl) rfl ?_
 show DK _ [0, 1, 2, 3, 4, 5, 6, 7, 8, 9, 10, 11] _ _ _
 refine .q rfl (op_move rfl) trivial ?_
 refine .q rfl (op_move rfl) trivial ?_
 refine .q rfl (op_nilCheck rfl) trivial ?_
 refine .q rfl (op_fieldAddr (m := 0) Tryd.underlying30 rfl (by kernel_rfl) rfl) trivial ?_
 refine .as (.ptr 510 3) rfl ?_
 refine .q rfl (op_load Tryd.underlying24 rfl rfl rfl rfl (by show _ < 5; decide)) trivial ?_
 refine .q rfl (op_move rfl) trivial ?_
 refine .a rfl (op_call (U := [(500, some ⟨.agg [.str ((namesD (i)).1).r, .err 131 (((namesD (i)).1).e) (offE eo (((namesD (i)).1).e))], 93, true⟩)]) [(500, 500)] [] (namesd_ev i hr eo) Tryd.func52 (by kernel_rfl) rfl rfl rfl (⟨⟨_, rfl, rfl, rfl⟩, trivial⟩) (⟨⟨_, _, rfl, rfl, rfl, rfl, id, rfl⟩, ⟨_, _, rfl, rfl, rfl, rfl, (fun h => by cases h), rfl⟩, ⟨_, _, rfl, rfl, rfl, rfl, (fun h => by cases h), rfl⟩, ⟨_, _, rfl, rfl, rfl, rfl, (fun h => by cases h), rfl⟩, trivial⟩) (⟨⟨500, _, rfl, rfl, rfl, rfl, .inr ⟨rfl, _, rfl, rfl⟩⟩, trivial⟩) (⟨(fun _ => ⟨500, _, rfl, rfl⟩), (fun h => by cases h), (fun h => by cases h), (fun h => by cases h), trivial⟩) rfl) trivial rfl rfl ?_
 refine .a rfl (ap_build (us := [.dsl (namesD (i)).2]) (c := .aggD [(namesD (i)).2]) Tryd.underlying24 inf23 rfl (by decide) (by decide) ⟨rfl, rfl, rfl, trivial⟩ rfl) trivial rfl rfl ?_
 refine .a rfl (ap_append_slO (c := .aggD ns) (c' := .aggD (ns ++ [(namesD (i)).2])) Tryd.underlying24 Tryd.underlying24 (.inr ⟨_, rfl⟩) inf23 rfl (fun _ h => h) (by show ns.length = ns.length * 1; omega) (srcs_sl (b := 1056) (o := 0) (m := 1) (z := 1) (k := ⟨.aggD [(namesD (i)).2], 23, true⟩) rfl rfl (Nat.le_refl 1) rfl) (by show (ns ++ [(namesD (i)).2]).map _ = _; rw [List.map_append]; rfl) (by decide) (Nat.le_of_ble_eq_true rfl) (by omega)) trivial rfl rfl ?_
 refine .q rfl (op_nilCheck rfl) trivial ?_
 refine .q rfl (op_fieldAddr (m := 0) Tryd.underlying30 rfl (by kernel_rfl) rfl) trivial ?_
 refine .as (.ptr 510 3) rfl ?_
 refine .w rfl (op_store (by kernel_rfl) rfl rfl rfl rfl rfl (by show _ < 5; decide)) trivial rfl rfl ?_
 refine .nil ?_
 show RetOk _ _ _ _ _ _ _
 exact ret0 rfl (.inr rfl) ⟨rfl, rfl, rfl, trivial⟩
end Go.Proofs.YtenocbhlbgcnfaaDoor
