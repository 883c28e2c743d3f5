/-
  Texts of this claim.
-/
import Derived.Test.YtdmlpblaelfdmaaGreatDoorGXGP
import Derived.Test.YtdmlpblaelfdmaaGreatDoorGOFP
namespace Go.Proofs.YtdmlpblaelfdmaaGreatDoor
open Go.RowKit
section
variable {P : Program} {T : Nat → Option AV} {H : Hp} {nm : Nat} {wr : Bool} {d : Option Tmp} {ty t t2 e : TypeId} {ps : String} {af : Array Edge} {gd : Option (Nat × Bool)} {x : Operand} {b o : Nat} {k : ABlk}
/-- The bytes of a slice of whatever block, as a string. -/
theorem op_bytes_strX {l : List UInt8} (hs : P.underlying t = some (.slice e)) (he : P.underlying e = some (.int .u8)) (hd : P.underlying t2 = some .string) (hx : aev T x = some (.sl b o l.length 1)) (hk : H b = some k) (h0 : 0 < l.length) (hc : (k.c.list.drop o).take l.length = l.map .u8) :
    OpSem P T H ⟨d, .convert t t2 x, ty, ps, af, gd⟩ nm wr (.str l) [] :=
  .reads fun E S a w h hR => by
    obtain ⟨l', s', h3, h4⟩ := hR.blk b k hk
    have hcell : ∀ j (hj : j < l.length), w.cell? ⟨l', o + j, none⟩ = some (.int .u8 ((l[j]).toNat : Int)) := fun j hj => by
      have h7 : k.c.list[o + j]? = some (.u8 l[j]) := by
        have := congrArg (fun z => z[j]?) hc
        simp only [List.getElem?_take, List.getElem?_drop, if_pos hj, List.getElem?_map, List.getElem?_eq_getElem hj, Option.map_some] at this
        exact this
      obtain ⟨_, y, h5, h6⟩ := h4.cell h7
      rw [h5, h6.u8_inv]
    rcases (h x mem1 _ hx).sl_inv with ⟨lc, s, c, g1, g2, g3, g4, g5⟩ | ⟨ad, h9, g5⟩
    · rw [g1] at h3; injection h3 with h3; injection h3 with e1 _; subst e1
      have := run_convert_bytes_back (P := P) w t t2 e ⟨lc, o, none⟩ c l hs he hd (fun j hj => by
        rw [add_at, hcell j hj])
      exact ⟨_, by simp [execOp, g5, this], .str _⟩
    · omega
end
set_option maxRecDepth 100000 in
theorem rsumS_ev (s : List UInt8) (hs : s.length ≤ 1000000) : Meets Tryz.prog 52 [.str s] [] (.str (sha256 s)) [] := by
 refine meets_of_ev (nt := 5) Tryz.func52 rfl rfl (Nat.le_of_ble_eq_true rfl) ?_
 refine .seq ?_
 refine .region ?_
 refine .q (op_assign rfl) trivial rfl ?_
 refine .nil ?_
 show Ev _ _ _ _ _
 refine .seq ?_
 refine .region ?_
 refine .q (op_move rfl) trivial rfl ?_
 refine .q (op_call (U := []) [] [] (rsum256_ev s hs) Tryz.func87 (by kernel_rfl) rfl rfl rfl (⟨⟨_, rfl, rfl, rfl⟩, ⟨_, rfl, rfl, rfl⟩, trivial⟩) (trivial) (trivial) (trivial) rfl) trivial rfl ?_
 refine .q (op_assign rfl) trivial rfl ?_
 refine .nil ?_
 show Ev _ _ _ _ _
 refine .ret ?_
 show RetOk _ _ _ _ _ _ _
 exact ret1v rfl (.inl rfl) rfl rfl trivial
set_option maxHeartbeats 1000000 in
set_option maxRecDepth 100000 in
theorem rhash14_ev (l0 l1 i0 i1 h p0 p1 sec : List UInt8) (e e2 : Nat) (hl0 : l0.length ≤ 1000) (hl1 : l1.length ≤ 1000) (hi0 : i0.length ≤ 1000) (hi1 : i1.length ≤ 1000) (hh : h.length ≤ 1000) (hp0 : p0.length = 32) (hp1 : p1.length = 32) (hsec : sec.length = 32) : Meets Tryz.prog 27 [.sl 500 0 2 1, .sl 500 2 2 1, .str h, .sl 501 0 2 1, .str sec] [(500, some ⟨exC l0 l1 i0 i1 h p0 p1 sec, e, false⟩), (501, some ⟨.aggS [p0, p1], e2, false⟩)] (.str (hshP l0 l1 i0 i1 h p0 p1 sec)) [] := by
 have hbg := bigB_le sec
 refine meets_of_ev (nt := 44) Tryz.func27 rfl rfl (Nat.le_of_ble_eq_true rfl) ?_
 refine .seq ?_
 refine .region ?_
 refine .q (op_assign rfl) trivial rfl ?_
 refine .nil ?_
 show Ev _ _ _ _ _
 refine .seq ?_
 refine .region ?_
 refine .q (op_assign rfl) trivial rfl ?_
 refine .nil ?_
 show Ev _ _ _ _ _
 refine .seq ?_
 refine .seq ?_
 refine .region ?_
 refine .q (op_move rfl) trivial rfl ?_
 refine .q (op_move rfl) trivial rfl ?_
 refine .q (op_move rfl) trivial rfl ?_
 refine .a (ap_build (us := [_]) (c := .aggS [_]) Tryz.underlying54 inf9 rfl (by decide) (by decide) ⟨rfl, rfl, rfl, trivial⟩ rfl) trivial rfl ?_
 refine .q (op_move rfl) trivial rfl ?_
 refine .a (ap_build (us := [.sl 500 0 2 1, .sl 500 2 2 1, .sl 1000 0 1 1, .sl 501 0 2 1]) (c := .agg [.sl 500 0 2 1, .sl 500 2 2 1, .sl 1000 0 1 1, .sl 501 0 2 1]) Tryz.underlying111 inf54 rfl (by decide) (by decide) ⟨rfl, rfl, rfl, rfl, rfl, rfl, rfl, rfl, rfl, rfl, rfl, rfl, trivial⟩ rfl) trivial rfl ?_
 refine .q (op_len_sl Tryz.underlying111 rfl) trivial rfl ?_
 refine .q (op_move rfl) trivial rfl ?_
 refine .nil ?_
 show Ev _ _ _ _ _
 refine .block ?_
 refine Ev.rounds 5 ?_
 show Ev _ _ _ _ _
 refine .seq ?_
 refine .region ?_
 refine .q (op_cmpI rfl rfl rfl) trivial rfl ?_
 refine .nil ?_
 show Ev _ _ _ _ _
 refine .seq ?_
 refine .cond_true rfl (rfl) ?_
 refine .skip ?_
 show Ev _ _ _ _ _
 refine .seq ?_
 refine .block ?_
 refine .seq ?_
 refine .region ?_
 refine .q (op_indexAddr Tryz.underlying111 inf54.sz rfl rfl (i := 0) rfl (by decide)) trivial rfl ?_
 refine .as (.ptr 1008 0) rfl ?_
 refine .q (op_load Tryz.underlying54 rfl rfl rfl rfl (by show 0 < 4; decide)) trivial rfl ?_
 refine .as (.sl 500 0 2 1) rfl ?_
 refine .q (op_assign rfl) trivial rfl ?_
 refine .nil ?_
 show Ev _ _ _ _ _
 refine .seq ?_
 refine .region ?_
 refine .q (op_move rfl) trivial rfl ?_
 refine .q (op_len_sl Tryz.underlying54 rfl) trivial rfl ?_
 refine .q (op_move rfl) trivial rfl ?_
 refine .nil ?_
 show Ev _ _ _ _ _
 refine .block ?_
 refine Ev.rounds 3 ?_
 show Ev _ _ _ _ _
 refine .seq ?_
 refine .region ?_
 refine .q (op_cmpI rfl rfl rfl) trivial rfl ?_
 refine .nil ?_
 show Ev _ _ _ _ _
 refine .seq ?_
 refine .cond_true rfl (rfl) ?_
 refine .skip ?_
 show Ev _ _ _ _ _
 refine .seq ?_
 refine .block ?_
 refine .seq ?_
 refine .region ?_
 refine .q (ap_idx (i := 0) Tryz.underlying54 inf9.sz rfl rfl rfl (by decide)) trivial rfl ?_
 refine .as (.ptr 500 0) rfl ?_
 refine .q (op_load Tryz.underlying9 rfl rfl rfl rfl (by show 0 < 101; decide)) trivial rfl ?_
 refine .as (.str l0) rfl ?_
 refine .q (op_assign rfl) trivial rfl ?_
 refine .nil ?_
 show Ev _ _ _ _ _
 refine .region ?_
 refine .q (op_move rfl) trivial rfl ?_
 refine .q (op_move rfl) trivial rfl ?_
 refine .q (op_call (U := []) [] [] (rtext9_ev l0 (by omega)) Tryz.func51 (by kernel_rfl) rfl rfl rfl (⟨⟨_, rfl, rfl, rfl⟩, trivial⟩) (trivial) (trivial) (trivial) rfl) trivial rfl ?_
 refine .q (op_addS rfl rfl (by first | (simp only [length_textB]; omega) | (simp [length_textB]; omega))) trivial rfl ?_
 refine .as (.str (textB l0)) rfl ?_
 refine .q (op_assign rfl) trivial rfl ?_
 refine .nil ?_
 show Ev _ _ _ _ _
 refine .region ?_
 refine .q (op_addI rfl rfl ⟨by omega, by omega⟩) trivial rfl ?_
 refine .as (.i64 1) rfl ?_
 refine .q (op_move rfl) trivial rfl ?_
 refine .nil ?_
 show Ev _ _ _ _ _
 refine .seq ?_
 refine .region ?_
 refine .q (op_cmpI rfl rfl rfl) trivial rfl ?_
 refine .nil ?_
 show Ev _ _ _ _ _
 refine .seq ?_
 refine .cond_true rfl (rfl) ?_
 refine .skip ?_
 show Ev _ _ _ _ _
 refine .seq ?_
 refine .block ?_
 refine .seq ?_
 refine .region ?_
 refine .q (ap_idx (i := 1) Tryz.underlying54 inf9.sz rfl rfl rfl (by decide)) trivial rfl ?_
 refine .as (.ptr 500 1) rfl ?_
 refine .q (op_load Tryz.underlying9 rfl rfl rfl rfl (by show 1 < 101; decide)) trivial rfl ?_
 refine .as (.str l1) rfl ?_
 refine .q (op_assign rfl) trivial rfl ?_
 refine .nil ?_
 show Ev _ _ _ _ _
 refine .region ?_
 refine .q (op_move rfl) trivial rfl ?_
 refine .q (op_move rfl) trivial rfl ?_
 refine .q (op_call (U := []) [] [] (rtext9_ev l1 (by omega)) Tryz.func51 (by kernel_rfl) rfl rfl rfl (⟨⟨_, rfl, rfl, rfl⟩, trivial⟩) (trivial) (trivial) (trivial) rfl) trivial rfl ?_
 refine .q (op_addS rfl rfl (by first | (simp only [length_textB]; omega) | (simp [length_textB]; omega))) trivial rfl ?_
 refine .as (.str (textB l0 ++ textB l1)) rfl ?_
 refine .q (op_assign rfl) trivial rfl ?_
 refine .nil ?_
 show Ev _ _ _ _ _
 refine .region ?_
 refine .q (op_addI rfl rfl ⟨by omega, by omega⟩) trivial rfl ?_
 refine .as (.i64 2) rfl ?_
 refine .q (op_move rfl) trivial rfl ?_
 refine .nil ?_
 show Ev _ _ _ _ _
 refine .seq ?_
 refine .region ?_
 refine .q (op_cmpI rfl rfl rfl) trivial rfl ?_
 refine .nil ?_
 show Ev _ _ _ _ _
 refine .seq ?_
 refine .cond_false rfl (rfl) ?_
 refine .exit ?_
 show Ev _ _ _ _ _
 refine .region ?_
 refine .q (op_addI rfl rfl ⟨by omega, by omega⟩) trivial rfl ?_
 refine .as (.i64 1) rfl ?_
 refine .q (op_move rfl) trivial rfl ?_
 refine .nil ?_
 show Ev _ _ _ _ _
 refine .seq ?_
 refine .region ?_
 refine .q (op_cmpI rfl rfl rfl) trivial rfl ?_
 refine .nil ?_
 show Ev _ _ _ _ _
 refine .seq ?_
 refine .cond_true rfl (rfl) ?_
 refine .skip ?_
 show Ev _ _ _ _ _
 refine .seq ?_
 refine .block ?_
 refine .seq ?_
 refine .region ?_
 refine .q (op_indexAddr Tryz.underlying111 inf54.sz rfl rfl (i := 1) rfl (by decide)) trivial rfl ?_
 refine .as (.ptr 1008 1) rfl ?_
 refine .q (op_load Tryz.underlying54 rfl rfl rfl rfl (by show 1 < 4; decide)) trivial rfl ?_
 refine .as (.sl 500 2 2 1) rfl ?_
 refine .q (op_assign rfl) trivial rfl ?_
 refine .nil ?_
 show Ev _ _ _ _ _
 refine .seq ?_
 refine .region ?_
 refine .q (op_move rfl) trivial rfl ?_
 refine .q (op_len_sl Tryz.underlying54 rfl) trivial rfl ?_
 refine .q (op_move rfl) trivial rfl ?_
 refine .nil ?_
 show Ev _ _ _ _ _
 refine .block ?_
 refine Ev.rounds 3 ?_
 show Ev _ _ _ _ _
 refine .seq ?_
 refine .region ?_
 refine .q (op_cmpI rfl rfl rfl) trivial rfl ?_
 refine .nil ?_
 show Ev _ _ _ _ _
 refine .seq ?_
 refine .cond_true rfl (rfl) ?_
 refine .skip ?_
 show Ev _ _ _ _ _
 refine .seq ?_
 refine .block ?_
 refine .seq ?_
 refine .region ?_
 refine .q (ap_idx (i := 0) Tryz.underlying54 inf9.sz rfl rfl rfl (by decide)) trivial rfl ?_
 refine .as (.ptr 500 2) rfl ?_
 refine .q (op_load Tryz.underlying9 rfl rfl rfl rfl (by show 2 < 101; decide)) trivial rfl ?_
 refine .as (.str i0) rfl ?_
 refine .q (op_assign rfl) trivial rfl ?_
 refine .nil ?_
 show Ev _ _ _ _ _
 refine .region ?_
 refine .q (op_move rfl) trivial rfl ?_
 refine .q (op_move rfl) trivial rfl ?_
 refine .q (op_call (U := []) [] [] (rtext9_ev i0 (by omega)) Tryz.func51 (by kernel_rfl) rfl rfl rfl (⟨⟨_, rfl, rfl, rfl⟩, trivial⟩) (trivial) (trivial) (trivial) rfl) trivial rfl ?_
 refine .q (op_addS rfl rfl (by first | (simp only [List.length_append, length_textB]; omega) | (simp [length_textB]; omega))) trivial rfl ?_
 refine .as (.str (textB l0 ++ textB l1 ++ textB i0)) rfl ?_
 refine .q (op_assign rfl) trivial rfl ?_
 refine .nil ?_
 show Ev _ _ _ _ _
 refine .region ?_
 refine .q (op_addI rfl rfl ⟨by omega, by omega⟩) trivial rfl ?_
 refine .as (.i64 1) rfl ?_
 refine .q (op_move rfl) trivial rfl ?_
 refine .nil ?_
 show Ev _ _ _ _ _
 refine .seq ?_
 refine .region ?_
 refine .q (op_cmpI rfl rfl rfl) trivial rfl ?_
 refine .nil ?_
 show Ev _ _ _ _ _
 refine .seq ?_
 refine .cond_true rfl (rfl) ?_
 refine .skip ?_
 show Ev _ _ _ _ _
 refine .seq ?_
 refine .block ?_
 refine .seq ?_
 refine .region ?_
 refine .q (ap_idx (i := 1) Tryz.underlying54 inf9.sz rfl rfl rfl (by decide)) trivial rfl ?_
 refine .as (.ptr 500 3) rfl ?_
 refine .q (op_load Tryz.underlying9 rfl rfl rfl rfl (by show 3 < 101; decide)) trivial rfl ?_
 refine .as (.str i1) rfl ?_
 refine .q (op_assign rfl) trivial rfl ?_
 refine .nil ?_
 show Ev _ _ _ _ _
 refine .region ?_
 refine .q (op_move rfl) trivial rfl ?_
 refine .q (op_move rfl) trivial rfl ?_
 refine .q (op_call (U := []) [] [] (rtext9_ev i1 (by omega)) Tryz.func51 (by kernel_rfl) rfl rfl rfl (⟨⟨_, rfl, rfl, rfl⟩, trivial⟩) (trivial) (trivial) (trivial) rfl) trivial rfl ?_
 refine .q (op_addS rfl rfl (by first | (simp only [List.length_append, length_textB]; omega) | (simp [length_textB]; omega))) trivial rfl ?_
 refine .as (.str (textB l0 ++ textB l1 ++ textB i0 ++ textB i1)) rfl ?_
 refine .q (op_assign rfl) trivial rfl ?_
 refine .nil ?_
 show Ev _ _ _ _ _
 refine .region ?_
 refine .q (op_addI rfl rfl ⟨by omega, by omega⟩) trivial rfl ?_
 refine .as (.i64 2) rfl ?_
 refine .q (op_move rfl) trivial rfl ?_
 refine .nil ?_
 show Ev _ _ _ _ _
 refine .seq ?_
 refine .region ?_
 refine .q (op_cmpI rfl rfl rfl) trivial rfl ?_
 refine .nil ?_
 show Ev _ _ _ _ _
 refine .seq ?_
 refine .cond_false rfl (rfl) ?_
 refine .exit ?_
 show Ev _ _ _ _ _
 refine .region ?_
 refine .q (op_addI rfl rfl ⟨by omega, by omega⟩) trivial rfl ?_
 refine .as (.i64 2) rfl ?_
 refine .q (op_move rfl) trivial rfl ?_
 refine .nil ?_
 show Ev _ _ _ _ _
 refine .seq ?_
 refine .region ?_
 refine .q (op_cmpI rfl rfl rfl) trivial rfl ?_
 refine .nil ?_
 show Ev _ _ _ _ _
 refine .seq ?_
 refine .cond_true rfl (rfl) ?_
 refine .skip ?_
 show Ev _ _ _ _ _
 refine .seq ?_
 refine .block ?_
 refine .seq ?_
 refine .region ?_
 refine .q (op_indexAddr Tryz.underlying111 inf54.sz rfl rfl (i := 2) rfl (by decide)) trivial rfl ?_
 refine .as (.ptr 1008 2) rfl ?_
 refine .q (op_load Tryz.underlying54 rfl rfl rfl rfl (by show 2 < 4; decide)) trivial rfl ?_
 refine .as (.sl 1000 0 1 1) rfl ?_
 refine .q (op_assign rfl) trivial rfl ?_
 refine .nil ?_
 show Ev _ _ _ _ _
 refine .seq ?_
 refine .region ?_
 refine .q (op_move rfl) trivial rfl ?_
 refine .q (op_len_sl Tryz.underlying54 rfl) trivial rfl ?_
 refine .q (op_move rfl) trivial rfl ?_
 refine .nil ?_
 show Ev _ _ _ _ _
 refine .block ?_
 refine Ev.rounds 2 ?_
 show Ev _ _ _ _ _
 refine .seq ?_
 refine .region ?_
 refine .q (op_cmpI rfl rfl rfl) trivial rfl ?_
 refine .nil ?_
 show Ev _ _ _ _ _
 refine .seq ?_
 refine .cond_true rfl (rfl) ?_
 refine .skip ?_
 show Ev _ _ _ _ _
 refine .seq ?_
 refine .block ?_
 refine .seq ?_
 refine .region ?_
 refine .q (ap_idx (i := 0) Tryz.underlying54 inf9.sz rfl rfl rfl (by decide)) trivial rfl ?_
 refine .as (.ptr 1000 0) rfl ?_
 refine .q (op_load Tryz.underlying9 rfl rfl rfl rfl (by show 0 < 1; decide)) trivial rfl ?_
 refine .as (.str h) rfl ?_
 refine .q (op_assign rfl) trivial rfl ?_
 refine .nil ?_
 show Ev _ _ _ _ _
 refine .region ?_
 refine .q (op_move rfl) trivial rfl ?_
 refine .q (op_move rfl) trivial rfl ?_
 refine .q (op_call (U := []) [] [] (rtext9_ev h (by omega)) Tryz.func51 (by kernel_rfl) rfl rfl rfl (⟨⟨_, rfl, rfl, rfl⟩, trivial⟩) (trivial) (trivial) (trivial) rfl) trivial rfl ?_
 refine .q (op_addS rfl rfl (by first | (simp only [List.length_append, length_textB]; omega) | (simp [length_textB]; omega))) trivial rfl ?_
 refine .as (.str (textB l0 ++ textB l1 ++ textB i0 ++ textB i1 ++ textB h)) rfl ?_
 refine .q (op_assign rfl) trivial rfl ?_
 refine .nil ?_
 show Ev _ _ _ _ _
 refine .region ?_
 refine .q (op_addI rfl rfl ⟨by omega, by omega⟩) trivial rfl ?_
 refine .as (.i64 1) rfl ?_
 refine .q (op_move rfl) trivial rfl ?_
 refine .nil ?_
 show Ev _ _ _ _ _
 refine .seq ?_
 refine .region ?_
 refine .q (op_cmpI rfl rfl rfl) trivial rfl ?_
 refine .nil ?_
 show Ev _ _ _ _ _
 refine .seq ?_
 refine .cond_false rfl (rfl) ?_
 refine .exit ?_
 show Ev _ _ _ _ _
 refine .region ?_
 refine .q (op_addI rfl rfl ⟨by omega, by omega⟩) trivial rfl ?_
 refine .as (.i64 3) rfl ?_
 refine .q (op_move rfl) trivial rfl ?_
 refine .nil ?_
 show Ev _ _ _ _ _
 refine .seq ?_
 refine .region ?_
 refine .q (op_cmpI rfl rfl rfl) trivial rfl ?_
 refine .nil ?_
 show Ev _ _ _ _ _
 refine .seq ?_
 refine .cond_true rfl (rfl) ?_
 refine .skip ?_
 show Ev _ _ _ _ _
 refine .seq ?_
 refine .block ?_
 refine .seq ?_
 refine .region ?_
 refine .q (op_indexAddr Tryz.underlying111 inf54.sz rfl rfl (i := 3) rfl (by decide)) trivial rfl ?_
 refine .as (.ptr 1008 3) rfl ?_
 refine .q (op_load Tryz.underlying54 rfl rfl rfl rfl (by show 3 < 4; decide)) trivial rfl ?_
 refine .as (.sl 501 0 2 1) rfl ?_
 refine .q (op_assign rfl) trivial rfl ?_
 refine .nil ?_
 show Ev _ _ _ _ _
 refine .seq ?_
 refine .region ?_
 refine .q (op_move rfl) trivial rfl ?_
 refine .q (op_len_sl Tryz.underlying54 rfl) trivial rfl ?_
 refine .q (op_move rfl) trivial rfl ?_
 refine .nil ?_
 show Ev _ _ _ _ _
 refine .block ?_
 refine Ev.rounds 3 ?_
 show Ev _ _ _ _ _
 refine .seq ?_
 refine .region ?_
 refine .q (op_cmpI rfl rfl rfl) trivial rfl ?_
 refine .nil ?_
 show Ev _ _ _ _ _
 refine .seq ?_
 refine .cond_true rfl (rfl) ?_
 refine .skip ?_
 show Ev _ _ _ _ _
 refine .seq ?_
 refine .block ?_
 refine .seq ?_
 refine .region ?_
 refine .q (ap_idx (i := 0) Tryz.underlying54 inf9.sz rfl rfl rfl (by decide)) trivial rfl ?_
 refine .as (.ptr 501 0) rfl ?_
 refine .q (op_load Tryz.underlying9 rfl rfl rfl rfl (by show 0 < 2; decide)) trivial rfl ?_
 refine .as (.str p0) rfl ?_
 refine .q (op_assign rfl) trivial rfl ?_
 refine .nil ?_
 show Ev _ _ _ _ _
 refine .region ?_
 refine .q (op_move rfl) trivial rfl ?_
 refine .q (op_move rfl) trivial rfl ?_
 refine .q (op_call (U := []) [] [] (rtext9_ev p0 (by omega)) Tryz.func51 (by kernel_rfl) rfl rfl rfl (⟨⟨_, rfl, rfl, rfl⟩, trivial⟩) (trivial) (trivial) (trivial) rfl) trivial rfl ?_
 refine .q (op_addS rfl rfl (by first | (simp only [List.length_append, length_textB]; omega) | (simp [length_textB]; omega))) trivial rfl ?_
 refine .as (.str (textB l0 ++ textB l1 ++ textB i0 ++ textB i1 ++ textB h ++ textB p0)) rfl ?_
 refine .q (op_assign rfl) trivial rfl ?_
 refine .nil ?_
 show Ev _ _ _ _ _
 refine .region ?_
 refine .q (op_addI rfl rfl ⟨by omega, by omega⟩) trivial rfl ?_
 refine .as (.i64 1) rfl ?_
 refine .q (op_move rfl) trivial rfl ?_
 refine .nil ?_
 show Ev _ _ _ _ _
 refine .seq ?_
 refine .region ?_
 refine .q (op_cmpI rfl rfl rfl) trivial rfl ?_
 refine .nil ?_
 show Ev _ _ _ _ _
 refine .seq ?_
 refine .cond_true rfl (rfl) ?_
 refine .skip ?_
 show Ev _ _ _ _ _
 refine .seq ?_
 refine .block ?_
 refine .seq ?_
 refine .region ?_
 refine .q (ap_idx (i := 1) Tryz.underlying54 inf9.sz rfl rfl rfl (by decide)) trivial rfl ?_
 refine .as (.ptr 501 1) rfl ?_
 refine .q (op_load Tryz.underlying9 rfl rfl rfl rfl (by show 1 < 2; decide)) trivial rfl ?_
 refine .as (.str p1) rfl ?_
 refine .q (op_assign rfl) trivial rfl ?_
 refine .nil ?_
 show Ev _ _ _ _ _
 refine .region ?_
 refine .q (op_move rfl) trivial rfl ?_
 refine .q (op_move rfl) trivial rfl ?_
 refine .q (op_call (U := []) [] [] (rtext9_ev p1 (by omega)) Tryz.func51 (by kernel_rfl) rfl rfl rfl (⟨⟨_, rfl, rfl, rfl⟩, trivial⟩) (trivial) (trivial) (trivial) rfl) trivial rfl ?_
 refine .q (op_addS rfl rfl (by first | (simp only [List.length_append, length_textB]; omega) | (simp [length_textB]; omega))) trivial rfl ?_
 refine .as (.str (textB l0 ++ textB l1 ++ textB i0 ++ textB i1 ++ textB h ++ textB p0 ++ textB p1)) rfl ?_
 refine .q (op_assign rfl) trivial rfl ?_
 refine .nil ?_
 show Ev _ _ _ _ _
 refine .region ?_
 refine .q (op_addI rfl rfl ⟨by omega, by omega⟩) trivial rfl ?_
 refine .as (.i64 2) rfl ?_
 refine .q (op_move rfl) trivial rfl ?_
 refine .nil ?_
 show Ev _ _ _ _ _
 refine .seq ?_
 refine .region ?_
 refine .q (op_cmpI rfl rfl rfl) trivial rfl ?_
 refine .nil ?_
 show Ev _ _ _ _ _
 refine .seq ?_
 refine .cond_false rfl (rfl) ?_
 refine .exit ?_
 show Ev _ _ _ _ _
 refine .region ?_
 refine .q (op_addI rfl rfl ⟨by omega, by omega⟩) trivial rfl ?_
 refine .as (.i64 4) rfl ?_
 refine .q (op_move rfl) trivial rfl ?_
 refine .nil ?_
 show Ev _ _ _ _ _
 refine .seq ?_
 refine .region ?_
 refine .q (op_cmpI rfl rfl rfl) trivial rfl ?_
 refine .nil ?_
 show Ev _ _ _ _ _
 refine .seq ?_
 refine .cond_false rfl (rfl) ?_
 refine .exit ?_
 show Ev _ _ _ _ _
 refine .seq ?_
 refine .region ?_
 refine .q (op_move rfl) trivial rfl ?_
 refine .q (op_move rfl) trivial rfl ?_
 refine .q (op_call (U := []) [] [] (rbig9_ev sec (by omega)) Tryz.func53 (by kernel_rfl) rfl rfl rfl (⟨⟨_, rfl, rfl, rfl⟩, trivial⟩) (trivial) (trivial) (trivial) rfl) trivial rfl ?_
 refine .q (op_addS rfl rfl (by simp only [List.length_append, length_textB]; omega)) trivial rfl ?_
 refine .q (op_call (U := []) [] [] (rsumS_ev (textB l0 ++ textB l1 ++ textB i0 ++ textB i1 ++ textB h ++ textB p0 ++ textB p1 ++ bigB sec) (by simp only [List.length_append, length_textB]; omega)) Tryz.func52 (by kernel_rfl) rfl rfl rfl (⟨⟨_, rfl, rfl, rfl⟩, trivial⟩) (trivial) (trivial) (trivial) rfl) trivial rfl ?_
 refine .as (.str (hshP l0 l1 i0 i1 h p0 p1 sec)) rfl ?_
 refine .q (op_assign rfl) trivial rfl ?_
 refine .nil ?_
 show Ev _ _ _ _ _
 refine .ret ?_
 show RetOk _ _ _ _ _ _ _
 exact ret1v rfl (.inl rfl) rfl rfl trivial
set_option maxHeartbeats 1000000 in
set_option maxRecDepth 100000 in
theorem rder14_ev (sec hash sid : List UInt8) (c : UInt8) (n : Nat) (hs : sec.length = 32) (hh : hash.length = 32) (hi : sid.length = 32) (hn : n ≤ 8160) : Meets Tryz.prog 30 [.str sec, .str hash, .str sid, .u8 c, .i64 ((n : Nat) : Int)] [] (.str (derP sec hash sid c n)) [] := by
 have hb := bigB_le sec
 obtain ⟨st, hst⟩ : ∃ st, bigB sec ++ hash = st := ⟨_, rfl⟩
 obtain ⟨t1, ht1⟩ : ∃ t1, sha256 (st ++ [c] ++ sid) = t1 := ⟨_, rfl⟩
 have h1l : t1.length = 32 := by rw [← ht1]; exact length_sha256 _
 have hsl : st.length ≤ 100 := by rw [← hst, List.length_append]; omega
 refine meets_of_ev (nt := 41) Tryz.func30 rfl rfl (Nat.le_of_ble_eq_true rfl) ?_
 refine .seq ?_
 refine .region ?_
 refine .q (op_assign rfl) trivial rfl ?_
 refine .nil ?_
 show Ev _ _ _ _ _
 refine .seq ?_
 refine .region ?_
 refine .q (op_assign rfl) trivial rfl ?_
 refine .nil ?_
 show Ev _ _ _ _ _
 refine .seq ?_
 refine .block ?_
 refine Ev.loop (ι := Option { j : Nat // j ≤ 254 }) (fun q => match q with | none => ⟨[(0, .str sec), (1, .str hash), (2, .str sid), (3, .u8 c), (4, .i64 ((n : Nat) : Int)), (11, .str [])], [], 1000⟩ | some q => ⟨[(0, .str sec), (1, .str hash), (2, .str sid), (3, .u8 c), (4, .i64 ((n : Nat) : Int)), (11, .str (keyN st t1 q.1))], [], 1000⟩) (fun q => match q with | none => 256 | some q => 255 - q.1) none (StLe.mk [] rfl rfl ⟨⟨_, rfl, by first | rfl | (simp only [AV.ren]; rfl), rfl⟩, ⟨_, rfl, by first | rfl | (simp only [AV.ren]; rfl), rfl⟩, ⟨_, rfl, by first | rfl | (simp only [AV.ren]; rfl), rfl⟩, ⟨_, rfl, by first | rfl | (simp only [AV.ren]; rfl), rfl⟩, ⟨_, rfl, by first | rfl | (simp only [AV.ren]; rfl), rfl⟩, ⟨_, rfl, by first | rfl | (simp only [AV.ren]; rfl), rfl⟩, trivial⟩ trivial) ?_
 rintro (_ | ⟨j, hj⟩)
 ·try dsimp only
  refine .seq ?_
  refine .seq ?_
  refine .region ?_
  refine .q (op_move rfl) trivial rfl ?_
  refine .q (op_len_str Tryz.underlying9 rfl) trivial rfl ?_
  refine .q (op_move rfl) trivial rfl ?_
  refine .q (op_cmpI rfl rfl rfl) trivial rfl ?_
  refine .nil ?_
  show Ev _ _ _ _ _
  refine .cond rfl (fun hc15 => ?_) (fun hc15 => ?_)
  ·simp only [decide_eq_true_eq] at hc15
   refine .skip ?_
   show Ev _ _ _ _ _
   refine .block ?_
   refine .seq ?_
   refine .region ?_
   refine .q (op_move rfl) trivial rfl ?_
   refine .q (op_eqS rfl rfl rfl) trivial rfl ?_
   refine .nil ?_
   show Ev _ _ _ _ _
   refine .cond_true rfl (rfl) ?_
   refine .drawn [[], [0], [], [0, 1, 2], [], [4], [4, 5], [0, 1, 2, 3, 4, 5, 6], [], [0, 1, 2, 3, 4, 5, 6, 7, 8], [0, 1, 2, 3, 4, 5, 6, 7, 8, 9], [0, 1, 2, 3, 4, 5, 6, 7, 8, 9, 10]] [1, 5, 6, 10] [] (by kernel_rfl) (by kernel_rfl) rfl ?_
   show DK _ [0, 1, 2, 3, 4, 5, 6, 7, 8, 9, 10, 11] _ _ _
   refine .q rfl (op_move rfl) trivial ?_
   refine .q rfl (op_call (U := []) [] [] (rbig9_ev sec (by omega)) Tryz.func53 (by kernel_rfl) rfl rfl rfl (⟨⟨_, rfl, rfl, rfl⟩, trivial⟩) (trivial) (trivial) (trivial) rfl) trivial ?_
   refine .q rfl (op_move rfl) trivial ?_
   refine .q rfl (op_addS rfl rfl (by omega)) trivial ?_
   refine .as (.str st) (congrArg AV.str hst) ?_
   refine .q rfl (op_move rfl) trivial ?_
   refine .a rfl (ap_build (us := [.u8 c]) (c := .aggB [c]) Tryz.underlying33 inf5 rfl (by decide) (by decide) ⟨rfl, rfl, rfl, trivial⟩ rfl) trivial rfl rfl ?_
   refine .q rfl (op_bytes_str (k := ⟨.aggB [c], 5, true⟩) (l := [c]) Tryz.underlying33 Tryz.underlying5 Tryz.underlying9 rfl (by kernel_rfl) rfl (show 0 + 1 ≤ 1 by decide)) trivial ?_
   refine .as (.str [c]) rfl ?_
   refine .q rfl (op_addS rfl rfl (by first | (simp only [List.length_singleton]; omega) | omega)) trivial ?_
   refine .q rfl (op_move rfl) trivial ?_
   refine .q rfl (op_addS rfl rfl (by simp only [List.length_append, List.length_singleton]; omega)) trivial ?_
   refine .q rfl (op_call (U := []) [] [] (rsumS_ev (st ++ [c] ++ sid) (by simp only [List.length_append, List.length_singleton]; omega)) Tryz.func52 (by kernel_rfl) rfl rfl rfl (⟨⟨_, rfl, rfl, rfl⟩, trivial⟩) (trivial) (trivial) (trivial) rfl) trivial ?_
   refine .as (.str t1) (congrArg AV.str ht1) ?_
   refine .q rfl (op_assign rfl) trivial ?_
   refine .nil ?_
   exact ⟨some ⟨0, by omega⟩, by show 255 - 0 < 256; omega, StLe.mk [] rfl rfl ⟨⟨_, rfl, by first | rfl | (simp only [AV.ren]; rfl), rfl⟩, ⟨_, rfl, by first | rfl | (simp only [AV.ren]; rfl), rfl⟩, ⟨_, rfl, by first | rfl | (simp only [AV.ren]; rfl), rfl⟩, ⟨_, rfl, by first | rfl | (simp only [AV.ren]; rfl), rfl⟩, ⟨_, rfl, by first | rfl | (simp only [AV.ren]; rfl), rfl⟩, ⟨_, rfl, by first | rfl | (simp only [AV.ren]; rfl), rfl⟩, trivial⟩ trivial⟩
  ·simp only [decide_eq_false_iff_not] at hc15
   refine .exit ?_
   show Ev _ _ _ _ _
   have hn0 : n = 0 := by simp at hc15; omega
   refine Ev.weak (st2 := ⟨[(4, .i64 ((0 : Nat) : Int)), (11, .str [])], [], 1000⟩) (StLe.mk [] rfl rfl ⟨⟨_, rfl, by (simp only [AV.ren]; rw [hn0]), rfl⟩, ⟨_, rfl, by first | rfl | (simp only [AV.ren]; rfl), rfl⟩, trivial⟩ trivial) ?_
   show Ev _ _ _ _ _
   refine .seq ?_
   refine .region ?_
   refine .q (op_move rfl) trivial rfl ?_
   refine .q (op_move rfl) trivial rfl ?_
   refine .q (ap_slice_str_hi Tryz.underlying9 rfl (bnd_some rfl rfl) (by first | omega | exact Nat.zero_le _ | (simp only [List.length_nil]; omega))) trivial rfl ?_
   refine .q (op_assign rfl) trivial rfl ?_
   refine .nil ?_
   show Ev _ _ _ _ _
   refine .ret ?_
   show RetOk _ _ _ _ _ _ _
   exact ret1v rfl (.inl rfl) rfl (congrArg AV.str (by unfold derP; rw [hst, ht1, hn0, List.take_zero, List.take_zero])) trivial
 ·try dsimp only
  have hkl := length_keyN st t1 h1l j
  refine .seq ?_
  refine .seq ?_
  refine .region ?_
  refine .q (op_move rfl) trivial rfl ?_
  refine .q (op_len_str Tryz.underlying9 rfl) trivial rfl ?_
  refine .q (op_move rfl) trivial rfl ?_
  refine .q (op_cmpI rfl rfl rfl) trivial rfl ?_
  refine .nil ?_
  show Ev _ _ _ _ _
  refine .cond rfl (fun hc15 => ?_) (fun hc15 => ?_)
  ·simp only [decide_eq_true_eq] at hc15
   refine .skip ?_
   show Ev _ _ _ _ _
   refine .block ?_
   refine .seq ?_
   refine .region ?_
   refine .q (op_move rfl) trivial rfl ?_
   refine .q (op_eqS rfl rfl rfl) trivial rfl ?_
   refine .nil ?_
   show Ev _ _ _ _ _
   refine .cond_false rfl (beq_eq_false_iff_ne.2 (fun hq => by have h9 := congrArg List.length hq; rw [hkl] at h9; simp at h9)) ?_
   refine .region ?_
   refine .q (op_move rfl) trivial rfl ?_
   refine .q (op_move rfl) trivial rfl ?_
   refine .q (op_call (U := []) [] [] (rbig9_ev sec (by omega)) Tryz.func53 (by kernel_rfl) rfl rfl rfl (⟨⟨_, rfl, rfl, rfl⟩, trivial⟩) (trivial) (trivial) (trivial) rfl) trivial rfl ?_
   refine .q (op_move rfl) trivial rfl ?_
   refine .q (op_addS rfl rfl (by omega)) trivial rfl ?_
   refine .as (.str st) (congrArg AV.str hst) ?_
   refine .q (op_move rfl) trivial rfl ?_
   refine .q (op_addS rfl rfl (by omega)) trivial rfl ?_
   refine .q (op_call (U := []) [] [] (rsumS_ev (st ++ keyN st t1 j) (by simp only [List.length_append]; omega)) Tryz.func52 (by kernel_rfl) rfl rfl rfl (⟨⟨_, rfl, rfl, rfl⟩, trivial⟩) (trivial) (trivial) (trivial) rfl) trivial rfl ?_
   refine .q (op_addS rfl rfl (by rw [length_sha256]; omega)) trivial rfl ?_
   refine .as (.str (keyN st t1 (j + 1))) rfl ?_
   refine .q (op_assign rfl) trivial rfl ?_
   refine .nil ?_
   exact ⟨some ⟨j + 1, by omega⟩, by show 255 - (j + 1) < 255 - j; omega, StLe.mk [] rfl rfl ⟨⟨_, rfl, by first | rfl | (simp only [AV.ren]; rfl), rfl⟩, ⟨_, rfl, by first | rfl | (simp only [AV.ren]; rfl), rfl⟩, ⟨_, rfl, by first | rfl | (simp only [AV.ren]; rfl), rfl⟩, ⟨_, rfl, by first | rfl | (simp only [AV.ren]; rfl), rfl⟩, ⟨_, rfl, by first | rfl | (simp only [AV.ren]; rfl), rfl⟩, ⟨_, rfl, by first | rfl | (simp only [AV.ren]; rfl), rfl⟩, trivial⟩ trivial⟩
  ·simp only [decide_eq_false_iff_not] at hc15
   refine .exit ?_
   show Ev _ _ _ _ _
   skip
   refine .seq ?_
   refine .region ?_
   refine .q (op_move rfl) trivial rfl ?_
   refine .q (op_move rfl) trivial rfl ?_
   refine .q (ap_slice_str_hi Tryz.underlying9 rfl (bnd_some rfl rfl) (by first | omega | exact Nat.zero_le _ | (simp only [List.length_nil]; omega))) trivial rfl ?_
   refine .q (op_assign rfl) trivial rfl ?_
   refine .nil ?_
   show Ev _ _ _ _ _
   refine .ret ?_
   show RetOk _ _ _ _ _ _ _
   exact ret1v rfl (.inl rfl) rfl (congrArg AV.str (by unfold derP; rw [hst, ht1]; exact (key_pre st t1 h1l n j (by omega) 254 hj).symm)) trivial
end Go.Proofs.YtdmlpblaelfdmaaGreatDoor
