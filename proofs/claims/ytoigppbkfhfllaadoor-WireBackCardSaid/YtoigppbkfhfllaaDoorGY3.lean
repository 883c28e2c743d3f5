/-
  Texts of this claim.
-/
import Derived.Test.YtoigppbkfhfllaaDoorGY2
import Derived.Test.YtoigppbkfhfllaaDoorGE2
import Derived.Test.YtoigppbkfhfllaaDoorGY
namespace Go.Proofs.YtoigppbkfhfllaaDoor
open Go.RowKit
def namesB (l : List (List UInt8)) : List UInt8 := textB (joinB l)
theorem length_namesB (l : List (List UInt8)) : (namesB l).length = 4 + (joinB l).length := length_textB _
theorem low_byte {x y : UInt64} {k : Nat} (hk : k < 8) (h : x.toNat / 2 ^ (8 * k) % 256 = y.toNat / 2 ^ (8 * k) % 256) : (dvB x k % 256).toUInt8 = (y >>> UInt64.ofNat (8 * k)).toUInt8 := by
  have hd : ∀ k, (dvB x k).toNat = x.toNat / 2 ^ (8 * k) := by
    intro k
    induction k with
    | zero => simp [dvB]
    | succ k ih =>
      show (dvB x k / 256).toNat = _
      rw [UInt64.toNat_div, ih, show 8 * (k + 1) = 8 * k + 8 by omega, Nat.pow_add, ← Nat.div_div_eq_div_mul]; rfl
  apply UInt8.toNat_inj.1
  rw [UInt64.toNat_toUInt8, UInt64.toNat_toUInt8, UInt64.toNat_shiftRight, UInt64.toNat_ofNat_of_lt' (show 8 * k < 2 ^ 64 by omega), Nat.mod_eq_of_lt (show 8 * k < 64 by omega), Nat.shiftRight_eq_div_pow, UInt64.toNat_mod, hd]
  have e : (256 : UInt64).toNat = 256 := rfl
  rw [e]
  omega
theorem tl_num8 (x : UInt64) : tlB x 8 = numB x 8 8 := by
  simp only [tlB, low_byte (x := x) (y := x) (k := 0) (by decide) rfl, low_byte (x := x) (y := x) (k := 1) (by decide) rfl, low_byte (x := x) (y := x) (k := 2) (by decide) rfl, low_byte (x := x) (y := x) (k := 3) (by decide) rfl, low_byte (x := x) (y := x) (k := 4) (by decide) rfl, low_byte (x := x) (y := x) (k := 5) (by decide) rfl, low_byte (x := x) (y := x) (k := 6) (by decide) rfl, low_byte (x := x) (y := x) (k := 7) (by decide) rfl]
  rfl
theorem tl_num4 {x y : UInt64} (h : y.toNat = x.toNat % 4294967296) : tlB x 4 = numB y 4 4 := by
  have k0 := low_byte (x := x) (y := y) (k := 0) (by decide) (by rw [h]; show x.toNat / 1 % 256 = x.toNat % 4294967296 / 1 % 256; omega)
  have k1 := low_byte (x := x) (y := y) (k := 1) (by decide) (by rw [h]; show x.toNat / 256 % 256 = x.toNat % 4294967296 / 256 % 256; omega)
  have k2 := low_byte (x := x) (y := y) (k := 2) (by decide) (by rw [h]; show x.toNat / 65536 % 256 = x.toNat % 4294967296 / 65536 % 256; omega)
  have k3 := low_byte (x := x) (y := y) (k := 3) (by decide) (by rw [h]; show x.toNat / 16777216 % 256 = x.toNat % 4294967296 / 16777216 % 256; omega)
  simp only [tlB, k0, k1, k2, k3]
  rfl
theorem tl_u32 (x : UInt64) : tlB x 4 = numB x.toUInt32.toUInt64 4 4 := tl_num4 (by rw [UInt32.toNat_toUInt64, UInt64.toNat_toUInt32])
theorem textR_eq {s : List UInt8} (hs : s.length ≤ 1000000000) : textR s = textB s := by
  unfold textR textB lenR lenB
  rw [tl_num4 (y := (ofI32 (s.length : Int)).toUInt64) (by
    rw [UInt32.toNat_toUInt64]
    have h2 := ofI32_toNat (s.length : Int)
    have h1 := ofI64_toNat (s.length : Int)
    have h3 : (UInt64.ofInt (s.length : Int)).toNat = s.length := by
      have : (ofI64 (s.length : Int)) = UInt64.ofInt (s.length : Int) := rfl
      rw [← this]; omega
    rw [h3]; omega)]
theorem bool_byte (x : UInt64) : [(x % 2).toUInt8] = boolB (x % 2 == 1) := by
  have h : x % 2 = 0 ∨ x % 2 = 1 := by
    have h2 : (x % 2).toNat < 2 := by rw [UInt64.toNat_mod]; exact Nat.mod_lt _ (by decide)
    rcases Nat.lt_or_ge (x % 2).toNat 1 with h3 | h3
    · exact .inl (UInt64.toNat_inj.1 (by show _ = 0; omega))
    · exact .inr (UInt64.toNat_inj.1 (by show _ = 1; omega))
  rcases h with h | h <;> rw [h] <;> rfl
set_option maxRecDepth 100000 in
theorem names0_ev (ls : List (List UInt8)) (h1 : ls.length ≤ 1000000) (h2 : sumB ls ≤ 1000000) : Meets Tryd.prog 15 [.ptr 500 0, .dsl ls] [(500, some ⟨.agg [.val (.pointer none), .nilsl], 29, true⟩)] (.ptr 500 0) [(500, some ⟨.agg [.ptr 500 0, .sl 1000 0 ((4 + (joinB ls).length)) 1], 29, true⟩), (1000, some ⟨.aggB (namesB ls), 5, true⟩)] := by
 have hjn2 := joinB_len ls
 refine meets_of_ev (nt := 9) Tryd.func15 rfl rfl (Nat.le_of_ble_eq_true rfl) ?_
 refine .seq ?_
 refine .region ?_
 refine .q (op_assign rfl) trivial rfl ?_
 refine .nil ?_
 show Ev _ _ _ _ _
 refine .seq ?_
 refine .region ?_
 refine .q (op_move rfl) trivial rfl ?_
 refine .q (op_move rfl) trivial rfl ?_
 refine .q (op_call (U := []) [] [] (join_ev ls h1 h2) Tryd.func46 (by kernel_rfl) rfl rfl rfl (⟨⟨_, rfl, rfl, rfl⟩, ⟨_, rfl, rfl, rfl⟩, trivial⟩) (trivial) (trivial) (trivial) rfl) trivial rfl ?_
 refine .a (op_call (U := [(500, some ⟨.agg [.ptr 500 0, .sl 1000 0 ((4 + (joinB ls).length)) 1], 29, true⟩), (1000, some ⟨.aggB (namesB ls), 5, true⟩)]) [(500, 500)] [(1000, 1008)] (text0_ev (joinB ls) (by omega)) Tryd.func19 (by kernel_rfl) rfl rfl rfl (⟨⟨_, rfl, rfl, rfl⟩, ⟨_, rfl, rfl, rfl⟩, trivial⟩) (⟨⟨_, _, rfl, rfl, rfl, rfl, id, rfl⟩, trivial⟩) (⟨⟨500, _, rfl, rfl, rfl, rfl, .inr ⟨rfl, _, rfl, rfl⟩⟩, ⟨1008, _, rfl, rfl, rfl, rfl, .inl rfl⟩, trivial⟩) (⟨(fun _ => ⟨500, _, rfl, rfl⟩), trivial⟩) rfl) trivial rfl ?_
 refine .q (op_assign rfl) trivial rfl ?_
 refine .nil ?_
 show Ev _ _ _ _ _
 refine .ret ?_
 show RetOk _ _ _ _ _ _ _
 exact ret1v rfl (.inl rfl) rfl rfl ⟨(by first | rfl | (simp only [List.append_assoc, Nat.add_assoc, textB, bigB]; rfl)), (by first | rfl | (simp only [List.append_assoc, Nat.add_assoc, textB, bigB]; rfl)), trivial⟩
set_option maxRecDepth 100000 in
theorem names1_ev (ls : List (List UInt8)) (h1 : ls.length ≤ 1000000) (h2 : sumB ls ≤ 1000000) : Meets Tryd.prog 15 [.ptr 500 0, .dsl ls] [(500, some ⟨.agg [.ptr 500 0, .nilsl], 29, true⟩)] (.ptr 500 0) [(500, some ⟨.agg [.ptr 500 0, .sl 1000 0 ((4 + (joinB ls).length)) 1], 29, true⟩), (1000, some ⟨.aggB (namesB ls), 5, true⟩)] := by
 have hjn2 := joinB_len ls
 refine meets_of_ev (nt := 9) Tryd.func15 rfl rfl (Nat.le_of_ble_eq_true rfl) ?_
 refine .seq ?_
 refine .region ?_
 refine .q (op_assign rfl) trivial rfl ?_
 refine .nil ?_
 show Ev _ _ _ _ _
 refine .seq ?_
 refine .region ?_
 refine .q (op_move rfl) trivial rfl ?_
 refine .q (op_move rfl) trivial rfl ?_
 refine .q (op_call (U := []) [] [] (join_ev ls h1 h2) Tryd.func46 (by kernel_rfl) rfl rfl rfl (⟨⟨_, rfl, rfl, rfl⟩, ⟨_, rfl, rfl, rfl⟩, trivial⟩) (trivial) (trivial) (trivial) rfl) trivial rfl ?_
 refine .a (op_call (U := [(500, some ⟨.agg [.ptr 500 0, .sl 1000 0 ((4 + (joinB ls).length)) 1], 29, true⟩), (1000, some ⟨.aggB (namesB ls), 5, true⟩)]) [(500, 500)] [(1000, 1008)] (text1_ev (joinB ls) (by omega)) Tryd.func19 (by kernel_rfl) rfl rfl rfl (⟨⟨_, rfl, rfl, rfl⟩, ⟨_, rfl, rfl, rfl⟩, trivial⟩) (⟨⟨_, _, rfl, rfl, rfl, rfl, id, rfl⟩, trivial⟩) (⟨⟨500, _, rfl, rfl, rfl, rfl, .inr ⟨rfl, _, rfl, rfl⟩⟩, ⟨1008, _, rfl, rfl, rfl, rfl, .inl rfl⟩, trivial⟩) (⟨(fun _ => ⟨500, _, rfl, rfl⟩), trivial⟩) rfl) trivial rfl ?_
 refine .q (op_assign rfl) trivial rfl ?_
 refine .nil ?_
 show Ev _ _ _ _ _
 refine .ret ?_
 show RetOk _ _ _ _ _ _ _
 exact ret1v rfl (.inl rfl) rfl rfl ⟨(by first | rfl | (simp only [List.append_assoc, Nat.add_assoc, textB, bigB]; rfl)), (by first | rfl | (simp only [List.append_assoc, Nat.add_assoc, textB, bigB]; rfl)), trivial⟩
set_option maxRecDepth 100000 in
theorem names2_ev (ls : List (List UInt8)) (h1 : ls.length ≤ 1000000) (h2 : sumB ls ≤ 1000000) (l : List UInt8) (n : Nat) (hn : n = l.length) (h : n ≤ 500000000) : Meets Tryd.prog 15 [.ptr 500 0, .dsl ls] [(500, some ⟨.agg [.ptr 500 0, .sl 501 0 (n) 1], 29, true⟩), (501, some ⟨.aggB l, 5, true⟩)] (.ptr 500 0) [(500, some ⟨.agg [.ptr 500 0, .sl 1000 0 (n + (4 + (joinB ls).length)) 1], 29, true⟩), (1000, some ⟨.aggB (l ++ namesB ls), 5, true⟩)] := by
 have hjn2 := joinB_len ls
 refine meets_of_ev (nt := 9) Tryd.func15 rfl rfl (Nat.le_of_ble_eq_true rfl) ?_
 refine .seq ?_
 refine .region ?_
 refine .q (op_assign rfl) trivial rfl ?_
 refine .nil ?_
 show Ev _ _ _ _ _
 refine .seq ?_
 refine .region ?_
 refine .q (op_move rfl) trivial rfl ?_
 refine .q (op_move rfl) trivial rfl ?_
 refine .q (op_call (U := []) [] [] (join_ev ls h1 h2) Tryd.func46 (by kernel_rfl) rfl rfl rfl (⟨⟨_, rfl, rfl, rfl⟩, ⟨_, rfl, rfl, rfl⟩, trivial⟩) (trivial) (trivial) (trivial) rfl) trivial rfl ?_
 refine .a (op_call (U := [(500, some ⟨.agg [.ptr 500 0, .sl 1000 0 (n + (4 + (joinB ls).length)) 1], 29, true⟩), (1000, some ⟨.aggB (l ++ namesB ls), 5, true⟩), (501, none)]) [(500, 500), (501, 501)] [(1000, 1008)] (text2_ev (joinB ls) (by omega) (l) (n) (by first | exact hn | (simp [length_numB, length_lenB, length_textB]; done) | (simp [length_numB, length_lenB, length_textB]; omega) | omega | decide +kernel) (by omega)) Tryd.func19 (by kernel_rfl) rfl rfl rfl (⟨⟨_, rfl, rfl, rfl⟩, ⟨_, rfl, rfl, rfl⟩, trivial⟩) (⟨⟨_, _, rfl, rfl, rfl, rfl, id, rfl⟩, ⟨_, _, rfl, rfl, rfl, rfl, id, rfl⟩, trivial⟩) (⟨⟨500, _, rfl, rfl, rfl, rfl, .inr ⟨rfl, _, rfl, rfl⟩⟩, ⟨1008, _, rfl, rfl, rfl, rfl, .inl rfl⟩, trivial⟩) (⟨(fun _ => ⟨500, _, rfl, rfl⟩), (fun _ => ⟨501, _, rfl, rfl⟩), trivial⟩) rfl) trivial rfl ?_
 refine .q (op_assign rfl) trivial rfl ?_
 refine .nil ?_
 show Ev _ _ _ _ _
 refine .ret ?_
 show RetOk _ _ _ _ _ _ _
 exact ret1v rfl (.inl rfl) rfl rfl ⟨(by first | rfl | (simp only [List.append_assoc, Nat.add_assoc, textB, bigB]; rfl)), (by first | rfl | (simp only [List.append_assoc, Nat.add_assoc, textB, bigB]; rfl)), trivial⟩
set_option maxRecDepth 100000 in
theorem bytes0_ev  : Meets Tryd.prog 21 [.ptr 500 0] [(500, some ⟨.agg [.val (.pointer none), .nilsl], 29, false⟩)] (.str []) [(500, some ⟨.agg [.val (.pointer none), .nilsl], 29, false⟩)] := by
 refine meets_of_ev (nt := 7) Tryd.func21 rfl rfl (Nat.le_of_ble_eq_true rfl) ?_
 refine .seq ?_
 refine .region ?_
 refine .q (op_assign rfl) trivial rfl ?_
 refine .nil ?_
 show Ev _ _ _ _ _
 refine .seq ?_
 refine .region ?_
 refine .q (op_move rfl) trivial rfl ?_
 refine .q (op_nilCheck rfl) trivial rfl ?_
 refine .q (op_fieldAddr (m := 1) Tryd.underlying29 rfl (by kernel_rfl) rfl) trivial rfl ?_
 refine .as (.ptr 500 0) rfl ?_
 refine .q (op_call (U := []) [(500, 500)] [] (st0_ev) Tryd.func49 (by kernel_rfl) rfl rfl rfl (⟨⟨_, rfl, rfl, rfl⟩, trivial⟩) (⟨⟨_, _, rfl, rfl, rfl, rfl, (fun h => by cases h), rfl⟩, trivial⟩) (trivial) (⟨(fun h => by cases h), trivial⟩) rfl) trivial rfl ?_
 refine .q (op_assign rfl) trivial rfl ?_
 refine .nil ?_
 show Ev _ _ _ _ _
 refine .ret ?_
 show RetOk _ _ _ _ _ _ _
 exact ret1v rfl (.inl rfl) rfl rfl ⟨rfl, trivial⟩
set_option maxRecDepth 100000 in
theorem bytes1_ev  : Meets Tryd.prog 21 [.ptr 500 0] [(500, some ⟨.agg [.ptr 500 0, .nilsl], 29, false⟩)] (.str []) [(500, some ⟨.agg [.ptr 500 0, .nilsl], 29, false⟩)] := by
 refine meets_of_ev (nt := 7) Tryd.func21 rfl rfl (Nat.le_of_ble_eq_true rfl) ?_
 refine .seq ?_
 refine .region ?_
 refine .q (op_assign rfl) trivial rfl ?_
 refine .nil ?_
 show Ev _ _ _ _ _
 refine .seq ?_
 refine .region ?_
 refine .q (op_move rfl) trivial rfl ?_
 refine .q (op_nilCheck rfl) trivial rfl ?_
 refine .q (op_fieldAddr (m := 1) Tryd.underlying29 rfl (by kernel_rfl) rfl) trivial rfl ?_
 refine .as (.ptr 500 0) rfl ?_
 refine .q (op_call (U := []) [(500, 500)] [] (st1_ev) Tryd.func49 (by kernel_rfl) rfl rfl rfl (⟨⟨_, rfl, rfl, rfl⟩, trivial⟩) (⟨⟨_, _, rfl, rfl, rfl, rfl, (fun h => by cases h), rfl⟩, trivial⟩) (trivial) (⟨(fun h => by cases h), trivial⟩) rfl) trivial rfl ?_
 refine .q (op_assign rfl) trivial rfl ?_
 refine .nil ?_
 show Ev _ _ _ _ _
 refine .ret ?_
 show RetOk _ _ _ _ _ _ _
 exact ret1v rfl (.inl rfl) rfl rfl ⟨rfl, trivial⟩
set_option maxRecDepth 100000 in
theorem rnamesB_ev (ls : List (List UInt8)) (h1 : ls.length ≤ 100000) (h2 : sumB ls ≤ 100000) : Meets Tryd.prog 16 [.dsl ls] [] (.str (namesB ls)) [] := by
 have hjf := joinB_take_le ls ls.length
 have hjg := joinB_len ls
 refine meets_of_ev (nt := 23) Tryd.func16 rfl rfl (Nat.le_of_ble_eq_true rfl) ?_
 refine .seq ?_
 refine .region ?_
 refine .q (op_assign rfl) trivial rfl ?_
 refine .nil ?_
 show Ev _ _ _ _ _
 refine .seq ?_
 refine .region ?_
 refine .q (op_assign rfl) trivial rfl ?_
 refine .nil ?_
 show Ev _ _ _ _ _
 refine .seq ?_
 refine .seq ?_
 refine .region ?_
 refine .q (op_move rfl) trivial rfl ?_
 refine .q (op_len_dsl Tryd.underlying31 rfl) trivial rfl ?_
 refine .q (op_move rfl) trivial rfl ?_
 refine .nil ?_
 show Ev _ _ _ _ _
 refine .block ?_
 refine Ev.loop (ι := { k : Nat // k ≤ ls.length }) (fun q => ⟨[(3, .str (joinB (ls.take q.1))), (6, .dsl ls), (7, .i64 ((ls.length : Nat) : Int)), (8, .i64 ((q.1 : Nat) : Int))], [], 1000⟩) (fun q => ls.length - q.1) ⟨0, Nat.zero_le _⟩ (StLe.mk [] rfl rfl ⟨⟨_, rfl, by first | rfl | (simp only [AV.ren]; congr 1; omega), rfl⟩, ⟨_, rfl, by first | rfl | (simp only [AV.ren]; congr 1; omega), rfl⟩, ⟨_, rfl, by first | rfl | (simp only [AV.ren]; congr 1; omega), rfl⟩, ⟨_, rfl, by first | rfl | (simp only [AV.ren]; congr 1; omega), rfl⟩, trivial⟩ trivial) ?_
 rintro ⟨k, hk⟩
 try dsimp only
 have hjl := joinB_take_le ls k
 have hgk := getD_le_sumB ls k
 refine .seq ?_
 refine .region ?_
 refine .q (op_cmpI rfl rfl rfl) trivial rfl ?_
 refine .nil ?_
 show Ev _ _ _ _ _
 refine .seq ?_
 refine .cond rfl (fun hc9 => ?_) (fun hc9 => ?_)
 ·simp only [decide_eq_true_eq] at hc9
  refine .skip ?_
  show Ev _ _ _ _ _
  refine .seq ?_
  refine .block ?_
  refine .seq ?_
  refine .region ?_
  have hlt : k < ls.length := by omega
  refine .q (op_move rfl) trivial rfl ?_
  refine .q (op_indexAddr_dsl Tryd.underlying31 inf9.sz rfl rfl rfl (by first | omega | (simp only [AV.len]; omega) | (simp only [AV.len, List.length_set]; omega) | assumption | (simp [AV.len]; done))) trivial rfl ?_
  refine .q (op_load_dptr Tryd.underlying9 rfl rfl (drop_get (by omega))) trivial rfl ?_
  refine .q (op_assign rfl) trivial rfl ?_
  refine .q (op_assign rfl) trivial rfl ?_
  refine .nil ?_
  show Ev _ _ _ _ _
  refine .seq ?_
  refine .seq ?_
  refine .region ?_
  refine .q (op_move rfl) trivial rfl ?_
  refine .q (op_cmpI rfl rfl rfl) trivial rfl ?_
  refine .nil ?_
  show Ev _ _ _ _ _
  refine .cond rfl (fun hc14 => ?_) (fun hc14 => ?_)
  ·simp only [decide_eq_true_eq] at hc14
   refine .region ?_
   refine .q (op_move rfl) trivial rfl ?_
   refine .q (op_addS rfl rfl (by simp only [List.length_cons, List.length_nil]; omega)) trivial rfl ?_
   refine .q (op_assign rfl) trivial rfl ?_
   refine .nil ?_
   show Ev _ _ _ _ _
   refine .region ?_
   refine .q (op_move rfl) trivial rfl ?_
   refine .q (op_move rfl) trivial rfl ?_
   refine .q (op_addS rfl rfl (by first | omega | (simp only [List.length_append, List.length_cons, List.length_nil]; omega))) trivial rfl ?_
   refine .q (op_assign rfl) trivial rfl ?_
   refine .nil ?_
   show Ev _ _ _ _ _
   refine .region ?_
   refine .q (op_addI rfl rfl ⟨by omega, by omega⟩) trivial rfl ?_
   refine .q (op_move rfl) trivial rfl ?_
   refine .nil ?_
   exact ⟨⟨k + 1, by omega⟩, by (try dsimp only); omega, StLe.mk [] rfl rfl ⟨⟨_, rfl, by (simp only [AV.ren]; rw [joinB_take hlt]; first | (rw [if_neg (by omega)]; done) | (rw [if_pos (by omega), List.append_nil]; done)), rfl⟩, ⟨_, rfl, by rfl, rfl⟩, ⟨_, rfl, by rfl, rfl⟩, ⟨_, rfl, by rfl, rfl⟩, trivial⟩ trivial⟩
  ·simp only [decide_eq_false_iff_not] at hc14
   refine .skip ?_
   show Ev _ _ _ _ _
   refine .region ?_
   refine .q (op_move rfl) trivial rfl ?_
   refine .q (op_move rfl) trivial rfl ?_
   refine .q (op_addS rfl rfl (by first | omega | (simp only [List.length_append, List.length_cons, List.length_nil]; omega))) trivial rfl ?_
   refine .q (op_assign rfl) trivial rfl ?_
   refine .nil ?_
   show Ev _ _ _ _ _
   refine .region ?_
   refine .q (op_addI rfl rfl ⟨by omega, by omega⟩) trivial rfl ?_
   refine .q (op_move rfl) trivial rfl ?_
   refine .nil ?_
   exact ⟨⟨k + 1, by omega⟩, by (try dsimp only); omega, StLe.mk [] rfl rfl ⟨⟨_, rfl, by (simp only [AV.ren]; rw [joinB_take hlt]; first | (rw [if_neg (by omega)]; done) | (rw [if_pos (by omega), List.append_nil]; done)), rfl⟩, ⟨_, rfl, by rfl, rfl⟩, ⟨_, rfl, by rfl, rfl⟩, ⟨_, rfl, by rfl, rfl⟩, trivial⟩ trivial⟩
 ·simp only [decide_eq_false_iff_not] at hc9
  refine .exit ?_
  show Ev _ _ _ _ _
  have ek : k = ls.length := by omega
  subst ek
  refine .seq ?_
  refine .region ?_
  refine .q (op_move rfl) trivial rfl ?_
  refine .q (op_call (U := []) [] [] (rtextB_ev (joinB (ls.take ls.length)) (by omega)) Tryd.func20 (by kernel_rfl) rfl rfl rfl (⟨⟨_, rfl, rfl, rfl⟩, trivial⟩) (trivial) (trivial) (trivial) rfl) trivial rfl ?_
  refine .q (op_assign rfl) trivial rfl ?_
  refine .nil ?_
  show Ev _ _ _ _ _
  refine .ret ?_
  show RetOk _ _ _ _ _ _ _
  exact ret1v rfl (.inl rfl) rfl (congrArg AV.str (by rw [List.take_length, textR_eq (by omega)]; rfl)) trivial
set_option maxRecDepth 100000 in
theorem few_ev (k : Int) (n : UInt64) (s : List UInt8) (ls : List (List UInt8)) (hs : s.length ≤ 9223372036854775807) (hl : ls.length ≤ 9223372036854775807) (hb : ∀ j, (ls.getD j []).length ≤ 9223372036854775807) : Meets Tryd.prog 8 [.agg [.i64 k, .u64 n, .str s, .dsl ls]] [] (.agg [.i64 k, .u64 n, .str (s.take 40), .dsl (fewL ls)]) [] := by
 refine meets_of_ev (nt := 32) Tryd.func8 rfl rfl (Nat.le_of_ble_eq_true rfl) ?_
 refine .seq ?_
 refine .region ?_
 refine .a (op_boxRow rfl rfl) trivial rfl ?_
 refine .a (op_allocRow zero33 rel_zero33 rfl) trivial rfl ?_
 refine .nil ?_
 show Ev _ _ _ _ _
 refine .seq ?_
 refine .region ?_
 refine .q (op_fieldAddr (m := 0) Tryd.underlying33 rfl (by kernel_rfl) rfl) trivial rfl ?_
 refine .as (.ptr 1000 2) rfl ?_
 refine .q (op_load Tryd.underlying9 rfl rfl rfl rfl (by first | omega | (simp only [AV.len]; omega) | (simp only [AV.len]; omega) | assumption | (simp [AV.len]; done))) trivial rfl ?_
 refine .q (op_call (U := []) [] [] (cut_ev s 40 (by omega)) Tryd.func41 (by kernel_rfl) rfl rfl rfl (⟨⟨_, rfl, rfl, rfl⟩, ⟨_, rfl, rfl, rfl⟩, trivial⟩) (trivial) (trivial) (trivial) rfl) trivial rfl ?_
 refine .q (op_fieldAddr (m := 0) Tryd.underlying33 rfl (by kernel_rfl) rfl) trivial rfl ?_
 refine .as (.ptr 1000 2) rfl ?_
 refine .w (op_store inf9.sz rfl rfl rfl rfl rfl (by first | omega | (simp only [AV.len]; omega) | (simp only [AV.len]; omega) | assumption | (simp [AV.len]; done))) trivial rfl ?_
 refine .nil ?_
 show Ev _ _ _ _ _
 refine .seq ?_
 refine .region ?_
 refine .q (op_assign rfl) trivial rfl ?_
 refine .nil ?_
 show Ev _ _ _ _ _
 refine .seq ?_
 refine .seq ?_
 refine .region ?_
 refine .q (op_assign rfl) trivial rfl ?_
 refine .nil ?_
 show Ev _ _ _ _ _
 refine .block ?_
 refine Ev.loop (ι := Option { i : Nat // 1 ≤ i ∧ i ≤ ls.length ∧ i ≤ 6 }) (fun q => match q with | none => ⟨[(1, .ptr 1000 0), (2, .ptr 1008 0), (3, .nilsl), (4, .i64 ((0 : Nat) : Int))], [(1000, some ⟨.agg [.i64 k, .u64 n, .str (s.take 40), .dsl ls], 33, true⟩), (1008, some ⟨.agg [.i64 0, .u64 0, .str [], .nilsl], 33, true⟩)], 1016⟩ | some q => ⟨[(1, .ptr 1000 0), (2, .ptr 1008 0), (3, .sl 1016 0 q.1 1), (4, .i64 ((q.1 : Nat) : Int))], [(1000, some ⟨.agg [.i64 k, .u64 n, .str (s.take 40), .dsl ls], 33, true⟩), (1008, some ⟨.agg [.i64 0, .u64 0, .str [], .nilsl], 33, true⟩), (1016, some ⟨.aggS (fewN ls q.1), 9, true⟩)], 1024⟩) (fun q => match q with | none => 7 | some q => 6 - q.1) none (StLe.mk [(1000, 1000), (1008, 1008)] rfl rfl ⟨⟨_, rfl, by first | rfl | (simp only [AV.ren]; congr 1; omega), rfl⟩, ⟨_, rfl, by first | rfl | (simp only [AV.ren]; congr 1; omega), rfl⟩, ⟨_, rfl, by first | rfl | (simp only [AV.ren]; congr 1; omega), rfl⟩, ⟨_, rfl, by first | rfl | (simp only [AV.ren]; congr 1; omega), rfl⟩, trivial⟩ ⟨⟨_, _, rfl, rfl, rfl, rfl, id, rfl⟩, ⟨_, _, rfl, rfl, rfl, rfl, id, rfl⟩, trivial⟩) ?_
 rintro (_ | ⟨i, hi1, hi2, hi3⟩)
 ·try dsimp only
  refine .seq ?_
  refine .seq ?_
  refine .region ?_
  refine .q (op_move rfl) trivial rfl ?_
  refine .q (op_fieldAddr (m := 0) Tryd.underlying33 rfl (by kernel_rfl) rfl) trivial rfl ?_
  refine .as (.ptr 1000 3) rfl ?_
  refine .q (op_load Tryd.underlying31 rfl rfl rfl rfl (by first | omega | (simp only [AV.len]; omega) | (simp only [AV.len]; omega) | assumption | (simp [AV.len]; done))) trivial rfl ?_
  refine .q (op_len_dsl Tryd.underlying31 rfl) trivial rfl ?_
  refine .q (op_cmpI rfl rfl rfl) trivial rfl ?_
  refine .q (op_move rfl) trivial rfl ?_
  refine .split (fun hg14 => ?_) (fun hg14 => ?_)
  ·simp only [decide_eq_true_eq] at hg14
   refine .q (op_move rfl) ⟨_, rfl, rfl⟩ rfl ?_
   refine .q (op_cmpI rfl rfl rfl) ⟨_, rfl, rfl⟩ rfl ?_
   refine .q (op_pick_true rfl rfl rfl) trivial rfl ?_
   refine .nil ?_
   show Ev _ _ _ _ _
   refine .cond rfl (fun hc17 => ?_) (fun hc17 => ?_)
   ·simp only [decide_eq_true_eq] at hc17
    refine .skip ?_
    show Ev _ _ _ _ _
    refine .seq ?_
    refine .block ?_
    refine .region ?_
    refine .q (op_move rfl) trivial rfl ?_
    refine .q (op_fieldAddr (m := 0) Tryd.underlying33 rfl (by kernel_rfl) rfl) trivial rfl ?_
    refine .as (.ptr 1000 3) rfl ?_
    refine .q (op_load Tryd.underlying31 rfl rfl rfl rfl (by first | omega | (simp only [AV.len]; omega) | (simp only [AV.len]; omega) | assumption | (simp [AV.len]; done))) trivial rfl ?_
    refine .q (op_move rfl) trivial rfl ?_
    refine .q (op_indexAddr_dsl Tryd.underlying31 inf9.sz rfl rfl rfl (by first | omega | (simp only [AV.len]; omega) | (simp only [AV.len, List.length_set]; omega) | assumption | (simp [AV.len]; done))) trivial rfl ?_
    refine .q (op_load_dptr Tryd.underlying9 rfl rfl (drop_get (by omega))) trivial rfl ?_
    refine .q (op_call (U := []) [] [] (cut_ev (ls.getD 0 []) 70 (hb _)) Tryd.func41 (by kernel_rfl) rfl rfl rfl (⟨⟨_, rfl, rfl, rfl⟩, ⟨_, rfl, rfl, rfl⟩, trivial⟩) (trivial) (trivial) (trivial) rfl) trivial rfl ?_
    refine .a (ap_build (us := [_]) (c := .aggS [_]) Tryd.underlying31 inf9 rfl (by decide) (by decide) ⟨rfl, rfl, rfl, trivial⟩ rfl) trivial rfl ?_
    refine .a (ap_cat_nil Tryd.underlying31 inf9 rfl rfl rfl rfl (by first | rfl | omega | (simp only [AV.len]; done) | decide) (by first | rfl | omega | (simp only [AV.len]; done) | decide)) trivial rfl ?_
    refine .q (op_assign rfl) trivial rfl ?_
    refine .nil ?_
    show Ev _ _ _ _ _
    refine .region ?_
    refine .q (op_move rfl) trivial rfl ?_
    refine .q (op_addI rfl rfl ⟨by omega, by omega⟩) trivial rfl ?_
    refine .q (op_assign rfl) trivial rfl ?_
    refine .nil ?_
    exact ⟨some ⟨1, by omega, by omega, by omega⟩, by show 6 - 1 < 7; omega, StLe.mk [(1000, 1000), (1008, 1008), (1016, 1024)] rfl rfl ⟨⟨_, rfl, by rfl, rfl⟩, ⟨_, rfl, by rfl, rfl⟩, ⟨_, rfl, by rfl, rfl⟩, ⟨_, rfl, by rfl, rfl⟩, trivial⟩ ⟨⟨_, _, rfl, rfl, rfl, rfl, id, rfl⟩, ⟨_, _, rfl, rfl, rfl, rfl, id, rfl⟩, ⟨_, _, rfl, rfl, by (show AV.aggS _ = AV.aggS (fewN ls 1); rw [show fewN ls 1 = fewN ls 0 ++ [(ls.getD 0 []).take 70] from fewN_succ (by omega)]; rfl), rfl, id, rfl⟩, trivial⟩⟩
   ·simp only [decide_eq_false_iff_not] at hc17
    refine .exit ?_
    show Ev _ _ _ _ _
    have hF : fewL ls = [] := (fewL_of (k := 0) (by omega) (.inl (by omega)) (by omega)).symm
    refine Ev.weak (st2 := ⟨[(3, .nilsl), (1, .ptr 1000 0), (2, .ptr 1008 0)], [(1000, some ⟨.agg [.i64 k, .u64 n, .str (s.take 40), .dsl ls], 33, true⟩), (1008, some ⟨.agg [.i64 0, .u64 0, .str [], .nilsl], 33, true⟩)], 1016⟩) (StLe.mk [(1000, 1000), (1008, 1008)] rfl rfl ⟨⟨_, rfl, by first | rfl | (simp only [AV.ren]; congr 1; omega), rfl⟩, ⟨_, rfl, by first | rfl | (simp only [AV.ren]; congr 1; omega), rfl⟩, ⟨_, rfl, by first | rfl | (simp only [AV.ren]; congr 1; omega), rfl⟩, trivial⟩ ⟨⟨_, _, rfl, rfl, rfl, rfl, id, rfl⟩, ⟨_, _, rfl, rfl, rfl, rfl, id, rfl⟩, trivial⟩) ?_
    refine Ev.asR (T1 := []) (.dsl (fewL ls)) (fun E y h => by rw [hF]; exact nil_dsl E y h) ?_
    show Ev _ _ _ _ _
    refine .seq ?_
    refine .region ?_
    refine .q (op_move rfl) trivial rfl ?_
    refine .q (op_fieldAddr (m := 0) Tryd.underlying33 rfl (by kernel_rfl) rfl) trivial rfl ?_
    refine .as (.ptr 1000 3) rfl ?_
    refine .w (op_store (by kernel_rfl) rfl rfl rfl rfl rfl (by first | omega | (simp only [AV.len]; omega) | (simp only [AV.len, List.length_set]; omega) | assumption | (simp [AV.len]; done))) trivial rfl ?_
    refine .nil ?_
    show Ev _ _ _ _ _
    refine .seq ?_
    refine .region ?_
    refine .q (op_loadRow Tryd.underlying33 rfl (by kernel_rfl) rfl rfl rfl (rfl)) trivial rfl ?_
    refine .w (op_storeRow (by kernel_rfl) rfl rfl rfl rfl rfl (rfl) (rfl)) trivial rfl ?_
    refine .nil ?_
    show Ev _ _ _ _ _
    refine .ret ?_
    show RetOk _ _ _ _ _ _ _
    exact retc1 rfl (.inl rfl) ⟨_, _, _, _, rfl, rfl, rfl, rfl, rfl, Tryd.underlying33, rfl, (by kernel_rfl)⟩ trivial
  ·simp only [decide_eq_false_iff_not] at hg14
   refine .no ⟨_, rfl, rfl⟩ rfl ?_
   refine .no ⟨_, rfl, rfl⟩ rfl ?_
   refine .q (op_pick_false rfl rfl rfl) trivial rfl ?_
   refine .nil ?_
   show Ev _ _ _ _ _
   refine .cond_false rfl rfl ?_
   refine .exit ?_
   show Ev _ _ _ _ _
   have hF : fewL ls = [] := (fewL_of (k := 0) (by omega) (.inl (by omega)) (by omega)).symm
   refine Ev.weak (st2 := ⟨[(3, .nilsl), (1, .ptr 1000 0), (2, .ptr 1008 0)], [(1000, some ⟨.agg [.i64 k, .u64 n, .str (s.take 40), .dsl ls], 33, true⟩), (1008, some ⟨.agg [.i64 0, .u64 0, .str [], .nilsl], 33, true⟩)], 1016⟩) (StLe.mk [(1000, 1000), (1008, 1008)] rfl rfl ⟨⟨_, rfl, by first | rfl | (simp only [AV.ren]; congr 1; omega), rfl⟩, ⟨_, rfl, by first | rfl | (simp only [AV.ren]; congr 1; omega), rfl⟩, ⟨_, rfl, by first | rfl | (simp only [AV.ren]; congr 1; omega), rfl⟩, trivial⟩ ⟨⟨_, _, rfl, rfl, rfl, rfl, id, rfl⟩, ⟨_, _, rfl, rfl, rfl, rfl, id, rfl⟩, trivial⟩) ?_
   refine Ev.asR (T1 := []) (.dsl (fewL ls)) (fun E y h => by rw [hF]; exact nil_dsl E y h) ?_
   show Ev _ _ _ _ _
   refine .seq ?_
   refine .region ?_
   refine .q (op_move rfl) trivial rfl ?_
   refine .q (op_fieldAddr (m := 0) Tryd.underlying33 rfl (by kernel_rfl) rfl) trivial rfl ?_
   refine .as (.ptr 1000 3) rfl ?_
   refine .w (op_store (by kernel_rfl) rfl rfl rfl rfl rfl (by first | omega | (simp only [AV.len]; omega) | (simp only [AV.len]; omega) | assumption | (simp [AV.len]; done))) trivial rfl ?_
   refine .nil ?_
   show Ev _ _ _ _ _
   refine .seq ?_
   refine .region ?_
   refine .q (op_loadRow Tryd.underlying33 rfl (by kernel_rfl) rfl rfl rfl (rfl)) trivial rfl ?_
   refine .w (op_storeRow (by kernel_rfl) rfl rfl rfl rfl rfl (rfl) (rfl)) trivial rfl ?_
   refine .nil ?_
   show Ev _ _ _ _ _
   refine .ret ?_
   show RetOk _ _ _ _ _ _ _
   exact retc1 rfl (.inl rfl) ⟨_, _, _, _, rfl, rfl, rfl, rfl, rfl, Tryd.underlying33, rfl, (by kernel_rfl)⟩ trivial
 ·try dsimp only
  refine .seq ?_
  refine .seq ?_
  refine .region ?_
  refine .q (op_move rfl) trivial rfl ?_
  refine .q (op_fieldAddr (m := 0) Tryd.underlying33 rfl (by kernel_rfl) rfl) trivial rfl ?_
  refine .as (.ptr 1000 3) rfl ?_
  refine .q (op_load Tryd.underlying31 rfl rfl rfl rfl (by first | omega | (simp only [AV.len]; omega) | (simp only [AV.len]; omega) | assumption | (simp [AV.len]; done))) trivial rfl ?_
  refine .q (op_len_dsl Tryd.underlying31 rfl) trivial rfl ?_
  refine .q (op_cmpI rfl rfl rfl) trivial rfl ?_
  refine .q (op_move rfl) trivial rfl ?_
  refine .split (fun hg14 => ?_) (fun hg14 => ?_)
  ·simp only [decide_eq_true_eq] at hg14
   refine .q (op_move rfl) ⟨_, rfl, rfl⟩ rfl ?_
   refine .q (op_cmpI rfl rfl rfl) ⟨_, rfl, rfl⟩ rfl ?_
   refine .q (op_pick_true rfl rfl rfl) trivial rfl ?_
   refine .nil ?_
   show Ev _ _ _ _ _
   refine .cond rfl (fun hc17 => ?_) (fun hc17 => ?_)
   ·simp only [decide_eq_true_eq] at hc17
    refine .skip ?_
    show Ev _ _ _ _ _
    refine .seq ?_
    refine .block ?_
    refine .region ?_
    refine .q (op_move rfl) trivial rfl ?_
    refine .q (op_fieldAddr (m := 0) Tryd.underlying33 rfl (by kernel_rfl) rfl) trivial rfl ?_
    refine .as (.ptr 1000 3) rfl ?_
    refine .q (op_load Tryd.underlying31 rfl rfl rfl rfl (by first | omega | (simp only [AV.len]; omega) | (simp only [AV.len]; omega) | assumption | (simp [AV.len]; done))) trivial rfl ?_
    refine .q (op_move rfl) trivial rfl ?_
    refine .q (op_indexAddr_dsl Tryd.underlying31 inf9.sz rfl rfl rfl (by first | omega | (simp only [AV.len]; omega) | (simp only [AV.len, List.length_set]; omega) | assumption | (simp [AV.len]; done))) trivial rfl ?_
    refine .q (op_load_dptr Tryd.underlying9 rfl rfl (drop_get (by omega))) trivial rfl ?_
    refine .q (op_call (U := []) [] [] (cut_ev (ls.getD i []) 70 (hb _)) Tryd.func41 (by kernel_rfl) rfl rfl rfl (⟨⟨_, rfl, rfl, rfl⟩, ⟨_, rfl, rfl, rfl⟩, trivial⟩) (trivial) (trivial) (trivial) rfl) trivial rfl ?_
    refine .a (ap_build (us := [_]) (c := .aggS [_]) Tryd.underlying31 inf9 rfl (by decide) (by decide) ⟨rfl, rfl, rfl, trivial⟩ rfl) trivial rfl ?_
    refine .a (ap_cat Tryd.underlying31 inf9 rfl rfl rfl rfl (by first | rfl | omega | (simp only [AV.len, fewN_len hi2]; done) | (simp only [AV.len, List.length_cons, List.length_nil, fewN_len hi2]; omega) | (rw [AV.len]; exact fewN_len hi2)) rfl rfl (by first | rfl | omega | (simp only [AV.len, List.length_cons, List.length_nil, fewN_len hi2]; done) | (simp only [AV.len, List.length_cons, List.length_nil, fewN_len hi2]; omega) | (rw [AV.len]; exact fewN_len hi2)) rfl (by first | rfl | omega | (simp only [AV.len, List.length_cons, List.length_nil, fewN_len hi2]; done) | (simp only [AV.len, List.length_cons, List.length_nil, fewN_len hi2]; omega) | (rw [AV.len]; exact fewN_len hi2))) trivial rfl ?_
    refine .q (op_assign rfl) trivial rfl ?_
    refine .nil ?_
    show Ev _ _ _ _ _
    refine .region ?_
    refine .q (op_move rfl) trivial rfl ?_
    refine .q (op_addI rfl rfl ⟨by omega, by omega⟩) trivial rfl ?_
    refine .q (op_assign rfl) trivial rfl ?_
    refine .nil ?_
    exact ⟨some ⟨i + 1, by omega, by omega, by omega⟩, by show 6 - (i + 1) < 6 - i; omega, StLe.mk [(1000, 1000), (1008, 1008), (1016, 1032)] rfl rfl ⟨⟨_, rfl, by rfl, rfl⟩, ⟨_, rfl, by rfl, rfl⟩, ⟨_, rfl, by rfl, rfl⟩, ⟨_, rfl, by rfl, rfl⟩, trivial⟩ ⟨⟨_, _, rfl, rfl, rfl, rfl, id, rfl⟩, ⟨_, _, rfl, rfl, rfl, rfl, id, rfl⟩, ⟨_, _, rfl, rfl, by (exact congrArg AV.aggS (fewN_succ (by omega)).symm), rfl, id, rfl⟩, trivial⟩⟩
   ·simp only [decide_eq_false_iff_not] at hc17
    refine .exit ?_
    show Ev _ _ _ _ _
    have hF : ((fewN ls i).drop 0).take i = fewL ls := by rw [List.drop_zero, List.take_of_length_le (by rw [fewN_len hi2]; omega)]; exact fewL_of hi2 (by omega) hi3
    refine Ev.weak (st2 := ⟨[(3, .sl 1016 0 i 1), (1, .ptr 1000 0), (2, .ptr 1008 0)], [(1000, some ⟨.agg [.i64 k, .u64 n, .str (s.take 40), .dsl ls], 33, true⟩), (1008, some ⟨.agg [.i64 0, .u64 0, .str [], .nilsl], 33, true⟩), (1016, some ⟨.aggS (fewN ls i), 9, true⟩)], 1024⟩) (StLe.mk [(1000, 1000), (1008, 1008), (1016, 1016)] rfl rfl ⟨⟨_, rfl, by first | rfl | (simp only [AV.ren]; congr 1; omega), rfl⟩, ⟨_, rfl, by first | rfl | (simp only [AV.ren]; congr 1; omega), rfl⟩, ⟨_, rfl, by first | rfl | (simp only [AV.ren]; congr 1; omega), rfl⟩, trivial⟩ ⟨⟨_, _, rfl, rfl, rfl, rfl, id, rfl⟩, ⟨_, _, rfl, rfl, rfl, rfl, id, rfl⟩, ⟨_, _, rfl, rfl, rfl, rfl, id, rfl⟩, trivial⟩) ?_
    refine Ev.weak (StLe.freeze (t := 3) (b := 1016) (o := 0) (n := i) (e := 9) (L := fewN ls i) (by decide) rfl rfl (by rw [fewN_len hi2]; omega)) ?_
    refine Ev.asR (T1 := []) (.dsl (fewL ls)) (fun E y h => by rw [← hF]; exact h) ?_
    show Ev _ _ _ _ _
    refine .seq ?_
    refine .region ?_
    refine .q (op_move rfl) trivial rfl ?_
    refine .q (op_fieldAddr (m := 0) Tryd.underlying33 rfl (by kernel_rfl) rfl) trivial rfl ?_
    refine .as (.ptr 1000 3) rfl ?_
    refine .w (op_store (by kernel_rfl) rfl rfl rfl rfl rfl (by first | omega | (simp only [AV.len]; omega) | (simp only [AV.len]; omega) | assumption | (simp [AV.len]; done))) trivial rfl ?_
    refine .nil ?_
    show Ev _ _ _ _ _
    refine .seq ?_
    refine .region ?_
    refine .q (op_loadRow Tryd.underlying33 rfl (by kernel_rfl) rfl rfl rfl (rfl)) trivial rfl ?_
    refine .w (op_storeRow (by kernel_rfl) rfl rfl rfl rfl rfl (rfl) (rfl)) trivial rfl ?_
    refine .nil ?_
    show Ev _ _ _ _ _
    refine .ret ?_
    show RetOk _ _ _ _ _ _ _
    exact retc1 rfl (.inl rfl) ⟨_, _, _, _, rfl, rfl, rfl, rfl, rfl, Tryd.underlying33, rfl, (by kernel_rfl)⟩ trivial
  ·simp only [decide_eq_false_iff_not] at hg14
   refine .no ⟨_, rfl, rfl⟩ rfl ?_
   refine .no ⟨_, rfl, rfl⟩ rfl ?_
   refine .q (op_pick_false rfl rfl rfl) trivial rfl ?_
   refine .nil ?_
   show Ev _ _ _ _ _
   refine .cond_false rfl rfl ?_
   refine .exit ?_
   show Ev _ _ _ _ _
   have hF : ((fewN ls i).drop 0).take i = fewL ls := by rw [List.drop_zero, List.take_of_length_le (by rw [fewN_len hi2]; omega)]; exact fewL_of hi2 (by omega) hi3
   refine Ev.weak (st2 := ⟨[(3, .sl 1016 0 i 1), (1, .ptr 1000 0), (2, .ptr 1008 0)], [(1000, some ⟨.agg [.i64 k, .u64 n, .str (s.take 40), .dsl ls], 33, true⟩), (1008, some ⟨.agg [.i64 0, .u64 0, .str [], .nilsl], 33, true⟩), (1016, some ⟨.aggS (fewN ls i), 9, true⟩)], 1024⟩) (StLe.mk [(1000, 1000), (1008, 1008), (1016, 1016)] rfl rfl ⟨⟨_, rfl, by first | rfl | (simp only [AV.ren]; congr 1; omega), rfl⟩, ⟨_, rfl, by first | rfl | (simp only [AV.ren]; congr 1; omega), rfl⟩, ⟨_, rfl, by first | rfl | (simp only [AV.ren]; congr 1; omega), rfl⟩, trivial⟩ ⟨⟨_, _, rfl, rfl, rfl, rfl, id, rfl⟩, ⟨_, _, rfl, rfl, rfl, rfl, id, rfl⟩, ⟨_, _, rfl, rfl, rfl, rfl, id, rfl⟩, trivial⟩) ?_
   refine Ev.weak (StLe.freeze (t := 3) (b := 1016) (o := 0) (n := i) (e := 9) (L := fewN ls i) (by decide) rfl rfl (by rw [fewN_len hi2]; omega)) ?_
   refine Ev.asR (T1 := []) (.dsl (fewL ls)) (fun E y h => by rw [← hF]; exact h) ?_
   show Ev _ _ _ _ _
   refine .seq ?_
   refine .region ?_
   refine .q (op_move rfl) trivial rfl ?_
   refine .q (op_fieldAddr (m := 0) Tryd.underlying33 rfl (by kernel_rfl) rfl) trivial rfl ?_
   refine .as (.ptr 1000 3) rfl ?_
   refine .w (op_store (by kernel_rfl) rfl rfl rfl rfl rfl (by first | omega | (simp only [AV.len]; omega) | (simp only [AV.len]; omega) | assumption | (simp [AV.len]; done))) trivial rfl ?_
   refine .nil ?_
   show Ev _ _ _ _ _
   refine .seq ?_
   refine .region ?_
   refine .q (op_loadRow Tryd.underlying33 rfl (by kernel_rfl) rfl rfl rfl (rfl)) trivial rfl ?_
   refine .w (op_storeRow (by kernel_rfl) rfl rfl rfl rfl rfl (rfl) (rfl)) trivial rfl ?_
   refine .nil ?_
   show Ev _ _ _ _ _
   refine .ret ?_
   show RetOk _ _ _ _ _ _ _
   exact retc1 rfl (.inl rfl) ⟨_, _, _, _, rfl, rfl, rfl, rfl, rfl, Tryd.underlying33, rfl, (by kernel_rfl)⟩ trivial
end Go.Proofs.YtoigppbkfhfllaaDoor
namespace Go.Proofs.YtoigppbkfhfllaaDoor
open Go.RowKit
theorem unsB_hi {q : List UInt8} (h0 : q ≠ []) (h : 127 < q.getD 0 0) : unsB q = 0 :: q := by
  unfold unsB
  rw [if_neg h0, if_neg (fun h1 => by
    rw [UInt8.lt_iff_toNat_lt] at h h1
    have e1 : (127 : UInt8).toNat = 127 := rfl
    have e2 : (128 : UInt8).toNat = 128 := rfl
    omega)]
theorem unsB_lo {q : List UInt8} (h : ¬ 127 < q.getD 0 0) : unsB q = q := by
  unfold unsB
  split
  · next h0 => exact h0.symm
  · rw [if_pos (by
      rw [UInt8.lt_iff_toNat_lt] at h ⊢
      have e1 : (127 : UInt8).toNat = 127 := rfl
      have e2 : (128 : UInt8).toNat = 128 := rfl
      omega)]
theorem unsB_nil {q : List UInt8} (h : q = []) : unsB q = q := by subst h; rfl
set_option maxRecDepth 100000 in
theorem rbigB_ev (s : List UInt8) (hs : s.length ≤ 900000) : Meets Tryd.prog 18 [.str s] [] (.str (textR (unsB (shortB s)))) [] := by
 refine meets_of_ev (nt := 25) Tryd.func18 rfl rfl (Nat.le_of_ble_eq_true rfl) ?_
 refine .seq ?_
 refine .region ?_
 refine .q (op_assign rfl) trivial rfl ?_
 refine .nil ?_
 show Ev _ _ _ _ _
 refine .seq ?_
 refine .block ?_
 refine Ev.loop (ι := { q : List UInt8 // shortB q = shortB s ∧ q.length ≤ s.length }) (fun q => ⟨[(0, .str q.1)], [], 1000⟩) (fun q => q.1.length) ⟨s, rfl, Nat.le_refl _⟩ (StLe.mk [] rfl rfl ⟨⟨_, rfl, by first | rfl | (simp only [AV.ren]; congr 1; omega), rfl⟩, trivial⟩ trivial) ?_
 rintro ⟨q, hq, hql⟩
 try dsimp only
 refine .seq ?_
 refine .seq ?_
 refine .region ?_
 refine .q (op_move rfl) trivial rfl ?_
 refine .q (op_eqS rfl rfl rfl) trivial rfl ?_
 refine .q (op_move rfl) trivial rfl ?_
 refine .split (fun hg5 => ?_) (fun hg5 => ?_)
 ·simp only [bne_iff_ne, ne_eq] at hg5
  refine .q (op_move rfl) ⟨_, rfl, rfl⟩ rfl ?_
  refine .q (op_index_str Tryd.underlying9 rfl rfl rfl (by have := List.length_pos_iff.2 hg5; omega)) ⟨_, rfl, rfl⟩ rfl ?_
  refine .q (op_bin8 rfl rfl rfl) ⟨_, rfl, rfl⟩ rfl ?_
  refine .q (op_pick_true rfl rfl rfl) trivial rfl ?_
  refine .nil ?_
  show Ev _ _ _ _ _
  refine .cond rfl (fun hc9 => ?_) (fun hc9 => ?_)
  ·simp only [beq_iff_eq] at hc9
   refine .skip ?_
   show Ev _ _ _ _ _
   refine .block ?_
   refine .region ?_
   refine .q (op_move rfl) trivial rfl ?_
   refine .q (ap_slice_str_lo Tryd.underlying9 rfl (bnd_some rfl rfl) (by show 1 ≤ q.length; have := List.length_pos_iff.2 hg5; omega)) trivial rfl ?_
   refine .q (op_assign rfl) trivial rfl ?_
   refine .nil ?_
   exact ⟨⟨q.drop 1, (shortB_zero (List.length_pos_iff.2 hg5) hc9).trans hq, by simp only [List.length_drop]; omega⟩, by (try dsimp only); (have := List.length_pos_iff.2 hg5; simp only [List.length_drop]; omega), StLe.mk [] rfl rfl ⟨⟨_, rfl, by first | rfl | (simp only [AV.ren]; congr 1; omega), rfl⟩, trivial⟩ trivial⟩
  ·simp only [ne_eq, beq_eq_false_iff_ne] at hc9
   refine .exit ?_
   show Ev _ _ _ _ _
   refine .seq ?_
   refine .seq ?_
   refine .region ?_
   refine .q (op_move rfl) trivial rfl ?_
   refine .q (op_eqS rfl rfl rfl) trivial rfl ?_
   refine .q (op_move rfl) trivial rfl ?_
   refine .split (fun hg14 => ?_) (fun hg14 => ?_)
   ·simp only [bne_iff_ne, ne_eq] at hg14
    refine .q (op_move rfl) ⟨_, rfl, rfl⟩ rfl ?_
    refine .q (op_index_str Tryd.underlying9 rfl rfl rfl (by have := List.length_pos_iff.2 hg14; omega)) ⟨_, rfl, rfl⟩ rfl ?_
    refine .q (op_bin8 rfl rfl rfl) ⟨_, rfl, rfl⟩ rfl ?_
    refine .q (op_pick_true rfl rfl rfl) trivial rfl ?_
    refine .nil ?_
    show Ev _ _ _ _ _
    refine .cond rfl (fun hc18 => ?_) (fun hc18 => ?_)
    ·simp only [decide_eq_true_eq] at hc18
     refine .region ?_
     refine .a (ap_build (us := [_]) (c := .aggB [_]) Tryd.underlying25 inf5 rfl (by decide) (by decide) ⟨rfl, rfl, rfl, trivial⟩ rfl) trivial rfl ?_
     refine .q (op_bytes_str Tryd.underlying25 Tryd.underlying5 Tryd.underlying9 rfl rfl rfl (by first | omega | (skip; omega) | (skip; omega) | assumption | (simp; done))) trivial rfl ?_
     refine .as (.str [0]) rfl ?_
     refine .q (op_move rfl) trivial rfl ?_
     refine .q (op_addS rfl rfl (by simp only [List.length_cons, List.length_nil]; omega)) trivial rfl ?_
     refine .q (op_assign rfl) trivial rfl ?_
     refine .nil ?_
     show Ev _ _ _ _ _
     refine .seq ?_
     refine .region ?_
     refine .q (op_move rfl) trivial rfl ?_
     refine .q (op_call (U := []) [] [] (rtextB_ev _ (by first | omega | (simp only [List.length_append, List.length_cons, List.length_nil]; omega))) Tryd.func20 (by kernel_rfl) rfl rfl rfl (⟨⟨_, rfl, rfl, rfl⟩, trivial⟩) (trivial) (trivial) (trivial) rfl) trivial rfl ?_
     refine .q (op_assign rfl) trivial rfl ?_
     refine .nil ?_
     show Ev _ _ _ _ _
     refine .ret ?_
     show RetOk _ _ _ _ _ _ _
     exact ret1v rfl (.inl rfl) rfl (congrArg (fun z => AV.str (textR z)) (by rw [← hq, show shortB q = q by first | exact shortB_stop hc9 | (rw [(show q = [] by first | exact bne_eq_false_iff_eq.1 hg5 | exact hg5)]; rfl)]; first | exact (unsB_hi hg14 hc18).symm | exact (unsB_lo hc18).symm | exact (unsB_nil (show q = [] by first | exact bne_eq_false_iff_eq.1 hg14 | exact hg14)).symm)) trivial
    ·simp only [decide_eq_false_iff_not] at hc18
     refine .skip ?_
     show Ev _ _ _ _ _
     refine .seq ?_
     refine .region ?_
     refine .q (op_move rfl) trivial rfl ?_
     refine .q (op_call (U := []) [] [] (rtextB_ev _ (by first | omega | (simp only [List.length_append, List.length_cons, List.length_nil]; omega))) Tryd.func20 (by kernel_rfl) rfl rfl rfl (⟨⟨_, rfl, rfl, rfl⟩, trivial⟩) (trivial) (trivial) (trivial) rfl) trivial rfl ?_
     refine .q (op_assign rfl) trivial rfl ?_
     refine .nil ?_
     show Ev _ _ _ _ _
     refine .ret ?_
     show RetOk _ _ _ _ _ _ _
     exact ret1v rfl (.inl rfl) rfl (congrArg (fun z => AV.str (textR z)) (by rw [← hq, show shortB q = q by first | exact shortB_stop hc9 | (rw [(show q = [] by first | exact bne_eq_false_iff_eq.1 hg5 | exact hg5)]; rfl)]; first | exact (unsB_hi hg14 hc18).symm | exact (unsB_lo hc18).symm | exact (unsB_nil (show q = [] by first | exact bne_eq_false_iff_eq.1 hg14 | exact hg14)).symm)) trivial
   ·simp only [bne_eq_false_iff_eq] at hg14
    refine .no ⟨_, rfl, rfl⟩ rfl ?_
    refine .no ⟨_, rfl, rfl⟩ rfl ?_
    refine .no ⟨_, rfl, rfl⟩ rfl ?_
    refine .q (op_pick_false rfl rfl rfl) trivial rfl ?_
    refine .nil ?_
    show Ev _ _ _ _ _
    refine .cond_false rfl rfl ?_
    refine .skip ?_
    show Ev _ _ _ _ _
    refine .seq ?_
    refine .region ?_
    refine .q (op_move rfl) trivial rfl ?_
    refine .q (op_call (U := []) [] [] (rtextB_ev _ (by first | omega | (simp only [List.length_append, List.length_cons, List.length_nil]; omega))) Tryd.func20 (by kernel_rfl) rfl rfl rfl (⟨⟨_, rfl, rfl, rfl⟩, trivial⟩) (trivial) (trivial) (trivial) rfl) trivial rfl ?_
    refine .q (op_assign rfl) trivial rfl ?_
    refine .nil ?_
    show Ev _ _ _ _ _
    refine .ret ?_
    show RetOk _ _ _ _ _ _ _
    exact ret1v rfl (.inl rfl) rfl (congrArg (fun z => AV.str (textR z)) (by rw [← hq, show shortB q = q by first | exact shortB_stop hc9 | (rw [(show q = [] by first | exact bne_eq_false_iff_eq.1 hg5 | exact hg5)]; rfl)]; first | exact (unsB_hi hg14 hc18).symm | exact (unsB_lo hc18).symm | exact (unsB_nil (show q = [] by first | exact bne_eq_false_iff_eq.1 hg14 | exact hg14)).symm)) trivial
 ·simp only [bne_eq_false_iff_eq] at hg5
  refine .no ⟨_, rfl, rfl⟩ rfl ?_
  refine .no ⟨_, rfl, rfl⟩ rfl ?_
  refine .no ⟨_, rfl, rfl⟩ rfl ?_
  refine .q (op_pick_false rfl rfl rfl) trivial rfl ?_
  refine .nil ?_
  show Ev _ _ _ _ _
  refine .cond_false rfl rfl ?_
  refine .exit ?_
  show Ev _ _ _ _ _
  refine .seq ?_
  refine .seq ?_
  refine .region ?_
  refine .q (op_move rfl) trivial rfl ?_
  refine .q (op_eqS rfl rfl rfl) trivial rfl ?_
  refine .q (op_move rfl) trivial rfl ?_
  refine .split (fun hg14 => ?_) (fun hg14 => ?_)
  ·simp only [bne_iff_ne, ne_eq] at hg14
   refine .q (op_move rfl) ⟨_, rfl, rfl⟩ rfl ?_
   refine .q (op_index_str Tryd.underlying9 rfl rfl rfl (by have := List.length_pos_iff.2 hg14; omega)) ⟨_, rfl, rfl⟩ rfl ?_
   refine .q (op_bin8 rfl rfl rfl) ⟨_, rfl, rfl⟩ rfl ?_
   refine .q (op_pick_true rfl rfl rfl) trivial rfl ?_
   refine .nil ?_
   show Ev _ _ _ _ _
   refine .cond rfl (fun hc18 => ?_) (fun hc18 => ?_)
   ·simp only [decide_eq_true_eq] at hc18
    refine .region ?_
    refine .a (ap_build (us := [_]) (c := .aggB [_]) Tryd.underlying25 inf5 rfl (by decide) (by decide) ⟨rfl, rfl, rfl, trivial⟩ rfl) trivial rfl ?_
    refine .q (op_bytes_str Tryd.underlying25 Tryd.underlying5 Tryd.underlying9 rfl rfl rfl (by first | omega | (skip; omega) | (skip; omega) | assumption | (simp; done))) trivial rfl ?_
    refine .as (.str [0]) rfl ?_
    refine .q (op_move rfl) trivial rfl ?_
    refine .q (op_addS rfl rfl (by simp only [List.length_cons, List.length_nil]; omega)) trivial rfl ?_
    refine .q (op_assign rfl) trivial rfl ?_
    refine .nil ?_
    show Ev _ _ _ _ _
    refine .seq ?_
    refine .region ?_
    refine .q (op_move rfl) trivial rfl ?_
    refine .q (op_call (U := []) [] [] (rtextB_ev _ (by first | omega | (simp only [List.length_append, List.length_cons, List.length_nil]; omega))) Tryd.func20 (by kernel_rfl) rfl rfl rfl (⟨⟨_, rfl, rfl, rfl⟩, trivial⟩) (trivial) (trivial) (trivial) rfl) trivial rfl ?_
    refine .q (op_assign rfl) trivial rfl ?_
    refine .nil ?_
    show Ev _ _ _ _ _
    refine .ret ?_
    show RetOk _ _ _ _ _ _ _
    exact ret1v rfl (.inl rfl) rfl (congrArg (fun z => AV.str (textR z)) (by rw [← hq, show shortB q = q by first | exact shortB_stop hc9 | (rw [(show q = [] by first | exact bne_eq_false_iff_eq.1 hg5 | exact hg5)]; rfl)]; first | exact (unsB_hi hg14 hc18).symm | exact (unsB_lo hc18).symm | exact (unsB_nil (show q = [] by first | exact bne_eq_false_iff_eq.1 hg14 | exact hg14)).symm)) trivial
   ·simp only [decide_eq_false_iff_not] at hc18
    refine .skip ?_
    show Ev _ _ _ _ _
    refine .seq ?_
    refine .region ?_
    refine .q (op_move rfl) trivial rfl ?_
    refine .q (op_call (U := []) [] [] (rtextB_ev _ (by first | omega | (simp only [List.length_append, List.length_cons, List.length_nil]; omega))) Tryd.func20 (by kernel_rfl) rfl rfl rfl (⟨⟨_, rfl, rfl, rfl⟩, trivial⟩) (trivial) (trivial) (trivial) rfl) trivial rfl ?_
    refine .q (op_assign rfl) trivial rfl ?_
    refine .nil ?_
    show Ev _ _ _ _ _
    refine .ret ?_
    show RetOk _ _ _ _ _ _ _
    exact ret1v rfl (.inl rfl) rfl (congrArg (fun z => AV.str (textR z)) (by rw [← hq, show shortB q = q by first | exact shortB_stop hc9 | (rw [(show q = [] by first | exact bne_eq_false_iff_eq.1 hg5 | exact hg5)]; rfl)]; first | exact (unsB_hi hg14 hc18).symm | exact (unsB_lo hc18).symm | exact (unsB_nil (show q = [] by first | exact bne_eq_false_iff_eq.1 hg14 | exact hg14)).symm)) trivial
  ·simp only [bne_eq_false_iff_eq] at hg14
   refine .no ⟨_, rfl, rfl⟩ rfl ?_
   refine .no ⟨_, rfl, rfl⟩ rfl ?_
   refine .no ⟨_, rfl, rfl⟩ rfl ?_
   refine .q (op_pick_false rfl rfl rfl) trivial rfl ?_
   refine .nil ?_
   show Ev _ _ _ _ _
   refine .cond_false rfl rfl ?_
   refine .skip ?_
   show Ev _ _ _ _ _
   refine .seq ?_
   refine .region ?_
   refine .q (op_move rfl) trivial rfl ?_
   refine .q (op_call (U := []) [] [] (rtextB_ev _ (by first | omega | (simp only [List.length_append, List.length_cons, List.length_nil]; omega))) Tryd.func20 (by kernel_rfl) rfl rfl rfl (⟨⟨_, rfl, rfl, rfl⟩, trivial⟩) (trivial) (trivial) (trivial) rfl) trivial rfl ?_
   refine .q (op_assign rfl) trivial rfl ?_
   refine .nil ?_
   show Ev _ _ _ _ _
   refine .ret ?_
   show RetOk _ _ _ _ _ _ _
   exact ret1v rfl (.inl rfl) rfl (congrArg (fun z => AV.str (textR z)) (by rw [← hq, show shortB q = q by first | exact shortB_stop hc9 | (rw [(show q = [] by first | exact bne_eq_false_iff_eq.1 hg5 | exact hg5)]; rfl)]; first | exact (unsB_hi hg14 hc18).symm | exact (unsB_lo hc18).symm | exact (unsB_nil (show q = [] by first | exact bne_eq_false_iff_eq.1 hg14 | exact hg14)).symm)) trivial
theorem textR_inj {a b : List UInt8} (h : textR a = textR b) : a = b :=
 (List.append_inj h (by simp only [lenR, length_tlB])).2
theorem big_hi {s : List UInt8} (h0 : s ≠ []) (h : 127 < s.getD 0 0) : unsB (shortB s) ≠ s ∧ unsB (shortB s) = 0 :: s := by
 have e : shortB s = s := shortB_stop (fun h1 => by
  rw [h1, UInt8.lt_iff_toNat_lt] at h
  exact absurd h (by decide))
 rw [e, unsB_hi h0 h]
 exact ⟨fun h => by have := congrArg List.length h; simp at this, rfl⟩
theorem big_mid {s : List UInt8} (h : ¬ 127 < s.getD 0 0) (hz : ¬ s.getD 0 0 = 0) : unsB (shortB s) = s ∧ shortB s = s := by
 have e : shortB s = s := shortB_stop hz
 rw [e, unsB_lo h]
 exact ⟨rfl, rfl⟩
theorem big_zero {s : List UInt8} (h0 : s ≠ []) (hz : s.getD 0 0 = 0) : unsB (shortB s) ≠ 0 :: s ∧ (unsB (shortB s) = s → shortB s = s.drop 1 ∧ 1 ≤ (s.drop 1).length) := by
 have e : shortB s = shortB (s.drop 1) := (shortB_zero (List.length_pos_iff.2 h0) hz).symm
 have l1 := length_shortB (s.drop 1)
 have l2 := length_unsB (shortB s)
 have l3 : (s.drop 1).length + 1 = s.length := by have := List.length_pos_iff.2 h0; simp only [List.length_drop]; omega
 rw [← e] at l1
 refine ⟨fun h => ?_, fun h => ?_⟩
 ·have := congrArg List.length h
  simp only [List.length_cons] at this
  omega
 ·by_cases hn : shortB s = []
  ·rw [hn] at h; exact absurd h.symm h0
  ·by_cases hh : 127 < (shortB s).getD 0 0
   ·rw [unsB_hi hn hh] at h
    have h2 : shortB s = s.drop 1 := by
     have := congrArg (List.drop 1) h
     exact this
    exact ⟨h2, by rw [← h2]; exact List.length_pos_iff.2 hn⟩
   ·rw [unsB_lo hh] at h
    have := congrArg List.length h
    omega
theorem textD_e {i : DI} (h : i.ok) {m : Int} (hs : (textD i m).2 ≠ []) : (textD i m).1.e = 0 := by
 refine Decidable.byContradiction fun he => hs ?_
 have hr : ∀ {i : DI} {n : Nat}, i.ok → (rawD i n).1.e ≠ 0 → (rawD i n).2 = [] := fun {i n} hi he => by
  by_cases e0 : i.e = 0
  ·unfold rawD at he ⊢
   split
   ·next hl => rw [if_pos hl] at he; exact absurd e0 he
   ·rfl
  ·rw [rawD_err hi e0]
 unfold textD at he ⊢
 split
 ·rfl
 ·next hm => rw [if_neg hm] at he; exact hr (rawD_ok h 4) he
end Go.Proofs.YtoigppbkfhfllaaDoor
namespace Go.Proofs.YtoigppbkfhfllaaDoor
open Go.RowKit
def a9a : List UInt8 := [97, 98]
def a9b : List UInt8 := [0, 128]
def a9l : List UInt8 := (textB a9a ++ bigB a9b) ++ boolB true
def a9i0 : DI := ⟨a9l, 0⟩
def a9i1 : DI := (textD a9i0 9).1
def a9i2 : DI := (bigD a9i1 9).1
def a9i3 : DI := (boolD a9i2).1
def a9i4 : DI := endD a9i3
set_option maxRecDepth 100000 in
theorem awake9_ev (eo : Nat → Nat × Nat) : Meets Tryd.prog 7 [] [(3, some ⟨.agg [.err 161 (2) (offE eo (2))], errT, false⟩), (0, some ⟨.agg [.err 161 (4) (offE eo (4))], errT, false⟩), (1, some ⟨.agg [.err 161 (3) (offE eo (3))], errT, false⟩)] (.bool true) [] := by
 have e1 : a9a.length = 2 := rfl
 have e2 : (unsB (shortB a9b)).length = 2 := by decide +kernel
 refine meets_of_ev (nt := 33) Tryd.func7 rfl rfl (Nat.le_of_ble_eq_true rfl) ?_
 refine .seq ?_
 refine .region ?_
 refine .q (op_assign rfl) trivial rfl ?_
 refine .nil ?_
 show Ev _ _ _ _ _
 refine .seq ?_
 refine .region ?_
 refine .a (op_allocRow zero29 rel_zero29 rfl) trivial rfl ?_
 refine .nil ?_
 show Ev _ _ _ _ _
 refine .seq ?_
 refine .region ?_
 refine .a (op_call (U := [(1000, some ⟨.agg [.ptr 1000 0, .sl 1008 0 ((4 + a9a.length)) 1], 29, true⟩), (1008, some ⟨.aggB (textB a9a), 5, true⟩)]) [(500, 1000)] [(1008, 1008)] (text0_ev a9a (by decide)) Tryd.func19 (by kernel_rfl) rfl rfl rfl (⟨⟨_, rfl, rfl, rfl⟩, ⟨_, rfl, rfl, rfl⟩, trivial⟩) (⟨⟨_, _, rfl, rfl, rfl, rfl, id, rfl⟩, trivial⟩) (⟨⟨500, _, rfl, rfl, rfl, rfl, .inr ⟨rfl, _, rfl, rfl⟩⟩, ⟨1008, _, rfl, rfl, rfl, rfl, .inl rfl⟩, trivial⟩) (⟨(fun _ => ⟨1000, _, rfl, rfl⟩), trivial⟩) rfl) trivial rfl ?_
 refine .a (op_call (U := [(1000, some ⟨.agg [.ptr 1000 0, .sl 1016 0 ((4 + a9a.length) + (4 + (unsB (shortB a9b)).length)) 1], 29, true⟩), (1016, some ⟨.aggB ((textB a9a) ++ bigB a9b), 5, true⟩), (1008, none)]) [(500, 1000), (501, 1008)] [(1016, 1000)] (big2_ev a9b (by decide) ((textB a9a)) ((4 + a9a.length)) (by first | exact hn | (simp [length_textB]; done) | (simp [length_numB, length_lenB, length_textB]; omega) | omega | decide +kernel) (by omega)) Tryd.func17 (by kernel_rfl) rfl rfl rfl (⟨⟨_, rfl, rfl, rfl⟩, ⟨_, rfl, rfl, rfl⟩, trivial⟩) (⟨⟨_, _, rfl, rfl, rfl, rfl, id, rfl⟩, ⟨_, _, rfl, rfl, rfl, rfl, id, rfl⟩, trivial⟩) (⟨⟨500, _, rfl, rfl, rfl, rfl, .inr ⟨rfl, _, rfl, rfl⟩⟩, ⟨1000, _, rfl, rfl, rfl, rfl, .inl rfl⟩, trivial⟩) (⟨(fun _ => ⟨1000, _, rfl, rfl⟩), (fun _ => ⟨1008, _, rfl, rfl⟩), trivial⟩) rfl) trivial rfl ?_
 refine .a (op_call (U := [(1000, some ⟨.agg [.ptr 1000 0, .sl 1024 0 ((4 + a9a.length) + (4 + (unsB (shortB a9b)).length) + 1) 1], 29, true⟩), (1024, some ⟨.aggB (((textB a9a) ++ bigB a9b) ++ boolB true), 5, true⟩), (1016, none)]) [(500, 1000), (501, 1016)] [(1024, 1000)] (bool2_ev true (((textB a9a) ++ bigB a9b)) ((4 + a9a.length) + (4 + (unsB (shortB a9b)).length)) (by first | exact hn | (simp [length_textB]; done) | (simp [length_textB]; omega) | omega | decide +kernel) (by omega)) Tryd.func10 (by kernel_rfl) rfl rfl rfl (⟨⟨_, rfl, rfl, rfl⟩, ⟨_, rfl, rfl, rfl⟩, trivial⟩) (⟨⟨_, _, rfl, rfl, rfl, rfl, id, rfl⟩, ⟨_, _, rfl, rfl, rfl, rfl, id, rfl⟩, trivial⟩) (⟨⟨500, _, rfl, rfl, rfl, rfl, .inr ⟨rfl, _, rfl, rfl⟩⟩, ⟨1000, _, rfl, rfl, rfl, rfl, .inl rfl⟩, trivial⟩) (⟨(fun _ => ⟨1000, _, rfl, rfl⟩), (fun _ => ⟨1016, _, rfl, rfl⟩), trivial⟩) rfl) trivial rfl ?_
 refine .nil ?_
 show Ev _ _ _ _ _
 refine .seq ?_
 refine .region ?_
 refine .a (op_call (U := [(1024, some ⟨.aggB ((((textB a9a) ++ bigB a9b) ++ boolB true)), (frz + 5), false⟩)]) [(500, 1000), (501, 1024)] [] (bytes2_ev ((((textB a9a) ++ bigB a9b) ++ boolB true)) ((4 + a9a.length) + (4 + (unsB (shortB a9b)).length) + 1) (by first | rfl | decide +kernel) (by first | decide +kernel | omega) (by first | decide +kernel | omega)) Tryd.func21 (by kernel_rfl) rfl rfl rfl (⟨⟨_, rfl, rfl, rfl⟩, trivial⟩) (⟨⟨_, _, rfl, rfl, rfl, rfl, (fun h => by cases h), rfl⟩, ⟨_, _, rfl, rfl, rfl, rfl, id, rfl⟩, trivial⟩) (⟨⟨501, _, rfl, rfl, rfl, rfl, .inr ⟨rfl, _, rfl, rfl⟩⟩, trivial⟩) (⟨(fun h => by cases h), (fun _ => ⟨1024, _, rfl, rfl⟩), trivial⟩) rfl) trivial rfl ?_
 refine .a (op_call (U := [(1040, some ⟨.agg [.str (DI.mk (a9l) 0).r, .err 161 ((DI.mk (a9l) 0).e) (offE eo ((DI.mk (a9l) 0).e))], 82, true⟩)]) [] [(1040, 1000)] (wof_ev (a9l) eo) Tryd.func23 (by kernel_rfl) rfl rfl rfl (⟨⟨_, rfl, rfl, rfl⟩, trivial⟩) (trivial) (⟨⟨1000, _, rfl, rfl, rfl, rfl, .inl rfl⟩, trivial⟩) (trivial) rfl) trivial rfl ?_
 refine .q (op_assign rfl) trivial rfl ?_
 refine .nil ?_
 show Ev _ _ _ _ _
 refine .seq ?_
 refine .region ?_
 refine .q (op_call (U := []) [(500, 1000), (501, 1024)] [] (bytes3_ev ((((textB a9a) ++ bigB a9b) ++ boolB true)) ((4 + a9a.length) + (4 + (unsB (shortB a9b)).length) + 1) (by first | rfl | decide +kernel) (by first | decide +kernel | omega) (by first | decide +kernel | omega)) Tryd.func21 (by kernel_rfl) rfl rfl rfl (⟨⟨_, rfl, rfl, rfl⟩, trivial⟩) (⟨⟨_, _, rfl, rfl, rfl, rfl, (fun h => by cases h), rfl⟩, ⟨_, _, rfl, rfl, rfl, rfl, (fun h => by cases h), rfl⟩, trivial⟩) (trivial) (⟨(fun h => by cases h), (fun h => by cases h), trivial⟩) rfl) trivial rfl ?_
 refine .q (op_eqS rfl rfl rfl) trivial rfl ?_
 refine .q (op_move rfl) trivial rfl ?_
 refine .know (b' := true) (by decide +kernel) ?_
 refine .q (op_move rfl) ⟨_, rfl, rfl⟩ rfl ?_
 refine .q (op_eqPtrNil Tryd.underlying49 rfl rfl rfl) ⟨_, rfl, rfl⟩ rfl ?_
 refine .q (op_pick_true rfl rfl rfl) trivial rfl ?_
 refine .q (op_move rfl) trivial rfl ?_
 refine .know (b' := true) (rfl) ?_
 refine .q (op_move rfl) ⟨_, rfl, rfl⟩ rfl ?_
 refine .a (op_call (U := [(1040, some ⟨.agg [.str (a9i1).r, .err 161 ((a9i1).e) (offE eo ((a9i1).e))], 82, true⟩)]) [(500, 1040)] [] (itext_ev a9i0 9 eo) Tryd.func25 (by kernel_rfl) rfl rfl rfl (⟨⟨_, rfl, rfl, rfl⟩, ⟨_, rfl, rfl, rfl⟩, trivial⟩) (⟨⟨_, _, rfl, rfl, rfl, rfl, id, rfl⟩, ⟨_, _, rfl, rfl, rfl, rfl, (fun h => by cases h), rfl⟩, ⟨_, _, rfl, rfl, rfl, rfl, (fun h => by cases h), rfl⟩, trivial⟩) (⟨⟨500, _, rfl, rfl, rfl, rfl, .inr ⟨rfl, _, rfl, rfl⟩⟩, trivial⟩) (⟨(fun _ => ⟨1040, _, rfl, rfl⟩), (fun h => by cases h), (fun h => by cases h), trivial⟩) rfl) ⟨_, rfl, rfl⟩ rfl ?_
 refine .q (op_eqS rfl rfl rfl) ⟨_, rfl, rfl⟩ rfl ?_
 refine .q (op_pick_true rfl rfl rfl) trivial rfl ?_
 refine .q (op_move rfl) trivial rfl ?_
 refine .know (b' := true) (by decide +kernel) ?_
 refine .q (op_move rfl) ⟨_, rfl, rfl⟩ rfl ?_
 refine .a (op_call (U := [(1040, some ⟨.agg [.str (a9i2).r, .err 161 ((a9i2).e) (offE eo ((a9i2).e))], 82, true⟩)]) [(500, 1040)] [] (ibig_ev a9i1 9 (by decide +kernel) eo) Tryd.func28 (by kernel_rfl) rfl rfl rfl (⟨⟨_, rfl, rfl, rfl⟩, ⟨_, rfl, rfl, rfl⟩, trivial⟩) (⟨⟨_, _, rfl, rfl, rfl, rfl, id, rfl⟩, ⟨_, _, rfl, rfl, rfl, rfl, (fun h => by cases h), rfl⟩, ⟨_, _, rfl, rfl, rfl, rfl, (fun h => by cases h), rfl⟩, ⟨_, _, rfl, rfl, rfl, rfl, (fun h => by cases h), rfl⟩, trivial⟩) (⟨⟨500, _, rfl, rfl, rfl, rfl, .inr ⟨rfl, _, rfl, rfl⟩⟩, trivial⟩) (⟨(fun _ => ⟨1040, _, rfl, rfl⟩), (fun h => by cases h), (fun h => by cases h), (fun h => by cases h), trivial⟩) rfl) ⟨_, rfl, rfl⟩ rfl ?_
 refine .q (op_eqS rfl rfl rfl) ⟨_, rfl, rfl⟩ rfl ?_
 refine .q (op_pick_true rfl rfl rfl) trivial rfl ?_
 refine .q (op_move rfl) trivial rfl ?_
 refine .know (b' := true) (by decide +kernel) ?_
 refine .q (op_move rfl) ⟨_, rfl, rfl⟩ rfl ?_
 refine .a (op_call (U := [(1040, some ⟨.agg [.str (a9i3).r, .err 161 ((a9i3).e) (offE eo ((a9i3).e))], 82, true⟩)]) [(500, 1040)] [] (ibool_ev a9i2 eo) Tryd.func29 (by kernel_rfl) rfl rfl rfl (⟨⟨_, rfl, rfl, rfl⟩, trivial⟩) (⟨⟨_, _, rfl, rfl, rfl, rfl, id, rfl⟩, ⟨_, _, rfl, rfl, rfl, rfl, (fun h => by cases h), rfl⟩, trivial⟩) (⟨⟨500, _, rfl, rfl, rfl, rfl, .inr ⟨rfl, _, rfl, rfl⟩⟩, trivial⟩) (⟨(fun _ => ⟨1040, _, rfl, rfl⟩), (fun h => by cases h), trivial⟩) rfl) ⟨_, rfl, rfl⟩ rfl ?_
 refine .q (op_pick_true rfl rfl rfl) trivial rfl ?_
 refine .q (op_move rfl) trivial rfl ?_
 refine .know (b' := true) (by decide +kernel) ?_
 refine .q (op_move rfl) ⟨_, rfl, rfl⟩ rfl ?_
 refine .a (op_call (U := [(1040, some ⟨.agg [.str (a9i4).r, .err 161 ((a9i4).e) (offE eo ((a9i4).e))], 82, true⟩)]) [(500, 1040)] [] (end_ev a9i3 eo) Tryd.func30 (by kernel_rfl) rfl rfl rfl (⟨⟨_, rfl, rfl, rfl⟩, trivial⟩) (⟨⟨_, _, rfl, rfl, rfl, rfl, id, rfl⟩, ⟨_, _, rfl, rfl, rfl, rfl, (fun h => by cases h), rfl⟩, trivial⟩) (⟨⟨500, _, rfl, rfl, rfl, rfl, .inr ⟨rfl, _, rfl, rfl⟩⟩, trivial⟩) (⟨(fun _ => ⟨1040, _, rfl, rfl⟩), (fun h => by cases h), trivial⟩) rfl) ⟨_, rfl, rfl⟩ rfl ?_
 refine .q (op_eqErrNil (e := (endD a9i3).e) Tryd.underlying56 rfl rfl) ⟨_, rfl, rfl⟩ rfl ?_
 refine .q (op_pick_true rfl rfl rfl) trivial rfl ?_
 refine .q (op_assign rfl) trivial rfl ?_
 refine .nil ?_
 show Ev _ _ _ _ _
 refine .ret ?_
 show RetOk _ _ _ _ _ _ _
 exact ret1v rfl (.inl rfl) rfl (congrArg AV.bool (by decide +kernel)) trivial
end Go.Proofs.YtoigppbkfhfllaaDoor
