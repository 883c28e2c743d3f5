/-
  Texts of this claim.
-/
import Derived.Test.YtidjfinookikcaaDoorGQU
import Derived.Test.YtidjfinookikcaaDoorGQR
import Derived.Test.YtidjfinookikcaaDoorGQV
namespace Go.Proofs.YtidjfinookikcaaDoor
open Go.RowKit
theorem wpack_ev (b : Bool) (e : Nat) (key : List UInt8) (hk : key.length = 32) (n : UInt64) (p : List UInt8) (h1 : 1 ≤ p.length) (h2 : p.length ≤ 32768) (eo : Nat → Nat × Nat) : Meets Tryd.prog 8 [.ptr 500 0, .str p] [(500, some ⟨dC b key n ([]), 30, true⟩), (3, some ⟨.aggI qsTab, e, false⟩)] (.tup [.str (packP b key n p), .err 131 (0) (offE eo (0))]) [(500, some ⟨dC b key (n + 1) ([]), 30, true⟩)] := by
  cases b
  · exact pack_f e key hk n p h1 h2 eo
  · exact pack_t e key hk n p h1 h2 eo
theorem nexta_none (b : Bool) (e : Nat) (key : List UInt8) (hk : key.length = 32) (n : UInt64) (q k : Nat) (l : List UInt8) (hq : q + k = l.length) (hl : l.length ≤ 1000000) (h : firstP b key n (l.drop q) = ([], 0, 0)) (eo : Nat → Nat × Nat) : Meets Tryd.prog 9 [.ptr 500 0] [(500, some ⟨dC b key n ([.sl 501 (q) (k) 1, .err 131 (0) (offE eo (0))]), 35, false⟩), (501, some ⟨.aggB l, 5, false⟩), (3, some ⟨.aggI qsTab, e, false⟩), (0, some ⟨.agg [.err 131 (2) (offE eo (2))], errT, false⟩), (2, some ⟨.agg [.err 131 (3) (offE eo (3))], errT, false⟩), (1, some ⟨.agg [.err 131 (4) (offE eo (4))], errT, false⟩), (4, some ⟨.agg [.err 131 (5) (offE eo (5))], errT, false⟩)] (.tup [.str [], .bool false, .err 131 (0) (offE eo (0))]) [] := by
  cases b
  · exact next_none_f e key hk n q k l hq hl (by rw [h]) (by rw [h]) eo
  · exact next_none_t e key hk n q k l hq hl (by rw [h]) (by rw [h]) eo
theorem nexta_ok (b : Bool) (e : Nat) (key : List UInt8) (hk : key.length = 32) (n : UInt64) (q k : Nat) (l : List UInt8) (hq : q + k = l.length) (hl : l.length ≤ 1000000) (s : List UInt8) (hk0 : 0 < k) (h : firstP b key n (l.drop q) = (s, k, 0)) (eo : Nat → Nat × Nat) : Meets Tryd.prog 9 [.ptr 500 0] [(500, some ⟨dC b key n ([.sl 501 (q) (k) 1, .err 131 (0) (offE eo (0))]), 35, true⟩), (501, some ⟨.aggB l, 5, false⟩), (3, some ⟨.aggI qsTab, e, false⟩), (0, some ⟨.agg [.err 131 (2) (offE eo (2))], errT, false⟩), (2, some ⟨.agg [.err 131 (3) (offE eo (3))], errT, false⟩), (1, some ⟨.agg [.err 131 (4) (offE eo (4))], errT, false⟩), (4, some ⟨.agg [.err 131 (5) (offE eo (5))], errT, false⟩)] (.tup [.str s, .bool true, .err 131 (0) (offE eo (0))]) [(500, some ⟨dC b key (n + 1) ([.sl 501 (l.length) (0) 1, .err 131 (0) (offE eo (0))]), 35, true⟩)] := by
  cases b
  · have h9 := next_ok_f e key hk n q k l hq hl (by rw [h]) (by rw [h]; show k ≠ 0; omega) eo
    rw [h] at h9
    dsimp only at h9
    rw [hq, Nat.sub_self] at h9
    exact h9
  · have h9 := next_ok_t e key hk n q k l hq hl (by rw [h]) (by rw [h]; show k ≠ 0; omega) eo
    rw [h] at h9
    dsimp only at h9
    rw [hq, Nat.sub_self] at h9
    exact h9
set_option maxRecDepth 100000 in
theorem ropen_sl (b : Bool) (key key2 : List UInt8) (hk2 : key2.length = 32) (n : UInt64) (q k : Nat) (eo : Nat → Nat × Nat) : Meets Tryd.prog 6 [.ptr 500 0, .aggB key2] [(500, some ⟨dC b key n ([.sl 501 (q) (k) 1, .err 131 (0) (offE eo (0))]), 35, true⟩)] (.tup []) [(500, some ⟨dC true key2 n ([.sl 501 (q) (k) 1, .err 131 (0) (offE eo (0))]), 35, true⟩)] := by
 refine meets_of_ev (nt := 9) Tryd.func6 rfl rfl (Nat.le_of_ble_eq_true rfl) ?_
 refine .seq ?_
 refine .region ?_
 refine .a (op_boxRow rfl rfl) trivial rfl ?_
 refine .nil ?_
 show Ev _ _ _ _ _
 refine .drawnF [[], [0], [0, 1], [], [0, 1, 2, 3]] [3, 4] [] [(3, ([1000], [])), (4, ([], [500]))] (by kernel_rfl) (by kernel_rfl) rfl ?_
 show DK _ [0, 1, 2, 3, 4] _ _ _
 refine .q rfl (op_move rfl) trivial ?_
 refine .q rfl (op_nilCheck rfl) trivial ?_
 refine .q rfl (op_fieldAddr (m := 33) Tryd.underlying35 rfl (by kernel_rfl) rfl) trivial ?_
 refine .as (.ptr 500 0) rfl ?_
 refine .q rfl (op_loadRow Tryd.underlying25 rfl sz25 rfl rfl rfl (hk2)) trivial ?_
 refine .a rfl (op_call (U := [(500, some ⟨dC true key2 n ([.sl 501 (q) (k) 1, .err 131 (0) (offE eo (0))]), 35, true⟩)]) [(500, 500), (501, 501)] [] (dseal_ev b key key2 hk2 n ([.sl 501 (q) (k) 1, .err 131 (0) (offE eo (0))]) 35) Tryd.func13 (by kernel_rfl) rfl rfl rfl (⟨⟨_, rfl, rfl, rfl⟩, ⟨_, rfl, rfl, rfl⟩, trivial⟩) (⟨⟨_, _, rfl, rfl, rfl, rfl, id, rfl⟩, trivial⟩) (⟨⟨500, _, rfl, rfl, rfl, rfl, .inr ⟨rfl, _, rfl, rfl⟩⟩, trivial⟩) (⟨(fun _ => ⟨500, _, rfl, rfl⟩), trivial⟩) rfl) trivial rfl rfl ?_
 refine .nil ?_
 show RetOk _ _ _ _ _ _ _
 exact ret0 rfl (.inr rfl) ⟨rfl, trivial⟩
set_option maxRecDepth 100000 in
theorem feedX_ev (b : Bool) (key : List UInt8) (n : UInt64) (q k : Nat) (l : List UInt8) (hq : q + k = l.length) (hl : l.length ≤ 1000000) (s : List UInt8) (h0 : 0 < s.length) (hs : s.length ≤ 1000000) (eo : Nat → Nat × Nat) : MeetsX Tryd.prog 10 [.ptr 500 0, .str s] [(500, some ⟨dC b key n ([.sl 501 (q) (k) 1, .err 131 (0) (offE eo (0))]), 35, true⟩), (501, some ⟨.aggB l, 5, true⟩)] (AppB l q k s) (fun _ => .tup []) (fun p => [(500, some ⟨dC b key n ([.sl 1000 p.1.1 (k + s.length) 1, .err 131 (0) (offE eo (0))]), 35, true⟩), (1000, some ⟨.aggB p.1.2, 5, true⟩)]) := by
 refine meetsX_of_ev (nt := 18) Tryd.func10 rfl rfl (Nat.le_of_ble_eq_true rfl) ?_
 refine .seq ?_
 refine .region ?_
 refine .q (op_move rfl) trivial rfl ?_
 refine .q (op_nilCheck rfl) trivial rfl ?_
 refine .q (op_fieldAddr (m := 0) Tryd.underlying35 rfl (by kernel_rfl) rfl) trivial rfl ?_
 refine .as (.ptr 500 35) rfl ?_
 refine .q (op_load Tryd.underlying33 rfl rfl rfl rfl (dC_ltt (i := 1) (by simp))) trivial rfl ?_
 refine .q (op_eqErrNil (e := 0) Tryd.underlying33 rfl rfl) trivial rfl ?_
 refine .nil ?_
 show Ev _ _ _ _ _
 refine .cond_true rfl (rfl) ?_
 refine .region ?_
 refine .q (op_move rfl) trivial rfl ?_
 refine .q (op_move rfl) trivial rfl ?_
 refine .q (op_nilCheck rfl) trivial rfl ?_
 refine .q (op_fieldAddr (m := 0) Tryd.underlying35 rfl (by kernel_rfl) rfl) trivial rfl ?_
 refine .as (.ptr 500 34) rfl ?_
 refine .q (op_load Tryd.underlying31 rfl rfl rfl rfl (dC_ltt (i := 0) (by simp))) trivial rfl ?_
 refine .q (op_move rfl) trivial rfl ?_
 refine .ax (op_appendXB Tryd.underlying31 Tryd.underlying9 (.inl rfl) inf5 rfl rfl hq.symm (srcs_str rfl) h0 (by omega)) trivial rfl (fun p => ?_)
 show EvL _ _ _ _ _ _
 refine .q (op_nilCheck rfl) trivial rfl ?_
 refine .q (op_fieldAddr (m := 0) Tryd.underlying35 rfl (by kernel_rfl) rfl) trivial rfl ?_
 refine .as (.ptr 500 34) rfl ?_
 refine .w (op_store (c' := dC b key n [.sl 1000 p.1.1 (k + s.length) 1, .err 131 (0) (offE eo (0))]) rfl rfl rfl rfl rfl rfl (dC_ltt (i := 0) (by simp))) trivial rfl ?_
 refine .nil ?_
 exact ⟨p, ret0 rfl (.inr rfl) ⟨rfl, rfl, trivial⟩⟩
end Go.Proofs.YtidjfinookikcaaDoor
