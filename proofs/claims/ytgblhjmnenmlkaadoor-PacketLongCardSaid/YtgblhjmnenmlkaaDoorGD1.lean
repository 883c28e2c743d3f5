/-
  Texts of this claim.
-/
import Derived.Shelf.Strings.Repeat
import Derived.Test.YtgblhjmnenmlkaaDoorGE
import Derived.Test.YtgblhjmnenmlkaaDoorGD
import Derived.Test.YtgblhjmnenmlkaaDoorGY
import Derived.Test.YtgblhjmnenmlkaaDoorGP
namespace Go.Proofs.YtgblhjmnenmlkaaDoor
open Go.Shelf Go.RowKit Go.Lib
def lays105_ren : Go.Shelf.Ren := ⟨fun | 105 => 100 | 212 => 116 | 99 => 117 | 165 => 118 | 166 => 115 | 170 => 119 | 169 => 102 | 263 => 125 | 264 => 96 | 206 => 126 | 240 => 124 | 241 => 127 | 276 => 130 | 277 => 131 | n => n, fun | 9 => 9 | 3 => 3 | 4 => 4 | 20 => 20 | 0 => 0 | 46 => 127 | 109 => 174 | 5 => 5 | 72 => 116 | 76 => 172 | 51 => 99 | 146 => 182 | 53 => 44 | 148 => 86 | 70 => 114 | 37 => 23 | 75 => 31 | 127 => 177 | 164 => 188 | 80 => 121 | n => n, fun | n => n⟩
theorem lays105 : Go.Proofs.Lays.n105 Tryd.prog lays105_ren := {
  mixed := by kernel_rfl
  f99 := Tryd.func117.trans (congrArg some (by kernel_rfl))
  f105 := Tryd.func100.trans (congrArg some (by kernel_rfl))
  f165 := Tryd.func118.trans (congrArg some (by kernel_rfl))
  f166 := Tryd.func115.trans (congrArg some (by kernel_rfl))
  f169 := Tryd.func102.trans (congrArg some (by kernel_rfl))
  f170 := Tryd.func119.trans (congrArg some (by kernel_rfl))
  f206 := Tryd.func126.trans (congrArg some (by kernel_rfl))
  f212 := Tryd.func116.trans (congrArg some (by kernel_rfl))
  f240 := Tryd.func124.trans (congrArg some (by kernel_rfl))
  f241 := Tryd.func127.trans (congrArg some (by kernel_rfl))
  f263 := Tryd.func125.trans (congrArg some (by kernel_rfl))
  f264 := Tryd.func96.trans (congrArg some (by kernel_rfl))
  f276 := Tryd.func130.trans (congrArg some (by kernel_rfl))
  f277 := Tryd.func131.trans (congrArg some (by kernel_rfl))
  t0 := Tryd.underlying0
  a0 := Tryd.isAgg0
  z0 := Tryd.sizeOf0
  v0 := Tryd.zeroValue0
  t3 := Tryd.underlying3
  a3 := Tryd.isAgg3
  z3 := Tryd.sizeOf3
  v3 := Tryd.zeroValue3
  t4 := Tryd.underlying4
  a4 := Tryd.isAgg4
  z4 := Tryd.sizeOf4
  v4 := Tryd.zeroValue4
  t5 := Tryd.underlying5
  a5 := Tryd.isAgg5
  z5 := Tryd.sizeOf5
  v5 := Tryd.zeroValue5
  t9 := Tryd.underlying9
  a9 := Tryd.isAgg9
  z9 := Tryd.sizeOf9
  v9 := Tryd.zeroValue9
  t20 := Tryd.underlying20
  a20 := Tryd.isAgg20
  z20 := Tryd.sizeOf20
  v20 := Tryd.zeroValue20
  t37 := Tryd.underlying23
  a37 := Tryd.isAgg23
  z37 := Tryd.sizeOf23
  v37 := Tryd.zeroValue23
  t46 := Tryd.underlying127
  a46 := Tryd.isAgg127
  z46 := Tryd.sizeOf127
  v46 := Tryd.zeroValue127
  t51 := Tryd.underlying99
  a51 := Tryd.isAgg99
  z51 := Tryd.sizeOf99
  v51 := Tryd.zeroValue99
  t53 := Tryd.underlying44
  a53 := Tryd.isAgg44
  z53 := Tryd.sizeOf44
  v53 := Tryd.zeroValue44
  t70 := Tryd.underlying114
  a70 := Tryd.isAgg114
  z70 := Tryd.sizeOf114
  v70 := Tryd.zeroValue114
  t72 := Tryd.underlying116
  a72 := Tryd.isAgg116
  z72 := Tryd.sizeOf116
  v72 := Tryd.zeroValue116
  t75 := Tryd.underlying31
  a75 := Tryd.isAgg31
  z75 := Tryd.sizeOf31
  v75 := Tryd.zeroValue31
  t76 := Tryd.underlying172
  a76 := Tryd.isAgg172
  z76 := Tryd.sizeOf172
  v76 := Tryd.zeroValue172
  t109 := Tryd.underlying174
  a109 := Tryd.isAgg174
  z109 := Tryd.sizeOf174
  v109 := Tryd.zeroValue174
  t127 := Tryd.underlying177
  a127 := Tryd.isAgg177
  z127 := Tryd.sizeOf177
  v127 := Tryd.zeroValue177
  t146 := Tryd.underlying182
  a146 := Tryd.isAgg182
  z146 := Tryd.sizeOf182
  v146 := Tryd.zeroValue182
  t148 := Tryd.underlying86
  a148 := Tryd.isAgg86
  z148 := Tryd.sizeOf86
  v148 := Tryd.zeroValue86
  t164 := Tryd.underlying188
  a164 := Tryd.isAgg188
  z164 := Tryd.sizeOf188
  v164 := Tryd.zeroValue188 }
theorem builder_Extra_105 : Builder.Extra Tryd.prog lays105_ren := {
  sizeBuilder := by kernel_rfl
  liesBuilder := by kernel_rfl
  t5 := Tryd.underlying5
  a5 := Tryd.isAgg5
  z5 := Tryd.sizeOf5
  v5 := Tryd.zeroValue5
  infoByte := by kernel_rfl
  cellsByte := by kernel_rfl
  sizeByte := by kernel_rfl
  neB5 := by decide }
theorem strings_Repeat (s : ByteArray) (c : Nat) (w : World) (hc : c ≤ 9223372036854775807) (hlen : s.size * c ≤ 140737488355328) :
    Calls Tryd.prog 100 #[.string s, .int .i64 c] w fun e w' => e = .returned (.string ⟨(Lib.repeatL s.data.toList c).toArray⟩) ∧ Below w.heap.size w w' := Any.strings_Repeat lays105 builder_Extra_105 s c w hc hlen
theorem repeat_z (n : Nat) : Lib.repeatL [0] n = zP n := by
  have := Lib.repeatL_replicate (0 : UInt8) 1 n
  rw [Nat.mul_one] at this; exact this
theorem repeat_ev (n : Nat) (hn : n ≤ 1000000) : Meets Tryd.prog 100 [.str [0], .i64 ((n : Nat) : Int)] [] (.str (zP n)) [] :=
  meets_of_walk fun E S vals w hg hl hr hR => by
    obtain ⟨x, y, rfl, hx, hy⟩ := args2 hl hr
    rw [hx.str_inv, hy.i64_inv]
    refine (strings_Repeat ⟨#[0]⟩ n w (by omega) (by show 1 * n ≤ _; omega)).mono fun e w' hh => ⟨_, hh.1, ?_, hh.2⟩
    rw [show (⟨#[0]⟩ : ByteArray).data.toList = [0] from rfl, repeat_z]
    exact .str _
end Go.Proofs.YtgblhjmnenmlkaaDoor
namespace Go.Proofs.YtgblhjmnenmlkaaDoor
open Go.RowKit
theorem zero64 : (Tryd.prog.info? 64).map (·.zero) = some (some (.agg #[.bool false, .int .u8 0, .int .u8 0, .int .u8 0, .int .u8 0, .int .u8 0, .int .u8 0, .int .u8 0, .int .u8 0, .int .u8 0, .int .u8 0, .int .u8 0, .int .u8 0, .int .u8 0, .int .u8 0, .int .u8 0, .int .u8 0, .int .u8 0, .int .u8 0, .int .u8 0, .int .u8 0, .int .u8 0, .int .u8 0, .int .u8 0, .int .u8 0, .int .u8 0, .int .u8 0, .int .u8 0, .int .u8 0, .int .u8 0, .int .u8 0, .int .u8 0, .int .u8 0, .int .u64 0])) := by kernel_rfl
theorem rel_zero64 : Rel (fun _ => none) (dC false (List.replicate 32 (0 : UInt8)) 0 []) (.agg #[.bool false, .int .u8 0, .int .u8 0, .int .u8 0, .int .u8 0, .int .u8 0, .int .u8 0, .int .u8 0, .int .u8 0, .int .u8 0, .int .u8 0, .int .u8 0, .int .u8 0, .int .u8 0, .int .u8 0, .int .u8 0, .int .u8 0, .int .u8 0, .int .u8 0, .int .u8 0, .int .u8 0, .int .u8 0, .int .u8 0, .int .u8 0, .int .u8 0, .int .u8 0, .int .u8 0, .int .u8 0, .int .u8 0, .int .u8 0, .int .u8 0, .int .u8 0, .int .u8 0, .int .u64 0]) := rel_agg rfl ⟨.bool _, .u8 _, .u8 _, .u8 _, .u8 _, .u8 _, .u8 _, .u8 _, .u8 _, .u8 _, .u8 _, .u8 _, .u8 _, .u8 _, .u8 _, .u8 _, .u8 _, .u8 _, .u8 _, .u8 _, .u8 _, .u8 _, .u8 _, .u8 _, .u8 _, .u8 _, .u8 _, .u8 _, .u8 _, .u8 _, .u8 _, .u8 _, .u8 _, .u64 _, trivial⟩
theorem zero66 : (Tryd.prog.info? 66).map (·.zero) = some (some (.agg #[.bool false, .int .u8 0, .int .u8 0, .int .u8 0, .int .u8 0, .int .u8 0, .int .u8 0, .int .u8 0, .int .u8 0, .int .u8 0, .int .u8 0, .int .u8 0, .int .u8 0, .int .u8 0, .int .u8 0, .int .u8 0, .int .u8 0, .int .u8 0, .int .u8 0, .int .u8 0, .int .u8 0, .int .u8 0, .int .u8 0, .int .u8 0, .int .u8 0, .int .u8 0, .int .u8 0, .int .u8 0, .int .u8 0, .int .u8 0, .int .u8 0, .int .u8 0, .int .u8 0, .int .u64 0, .slice none 0 0, .nilIface])) := by kernel_rfl
theorem rel_zero66 (eo : Nat → Nat × Nat) : Rel (fun _ => none) (dC false (List.replicate 32 (0 : UInt8)) 0 [.nilsl, .err 192 (0) (offE eo (0))]) (.agg #[.bool false, .int .u8 0, .int .u8 0, .int .u8 0, .int .u8 0, .int .u8 0, .int .u8 0, .int .u8 0, .int .u8 0, .int .u8 0, .int .u8 0, .int .u8 0, .int .u8 0, .int .u8 0, .int .u8 0, .int .u8 0, .int .u8 0, .int .u8 0, .int .u8 0, .int .u8 0, .int .u8 0, .int .u8 0, .int .u8 0, .int .u8 0, .int .u8 0, .int .u8 0, .int .u8 0, .int .u8 0, .int .u8 0, .int .u8 0, .int .u8 0, .int .u8 0, .int .u8 0, .int .u64 0, .slice none 0 0, .nilIface]) := rel_agg rfl ⟨.bool _, .u8 _, .u8 _, .u8 _, .u8 _, .u8 _, .u8 _, .u8 _, .u8 _, .u8 _, .u8 _, .u8 _, .u8 _, .u8 _, .u8 _, .u8 _, .u8 _, .u8 _, .u8 _, .u8 _, .u8 _, .u8 _, .u8 _, .u8 _, .u8 _, .u8 _, .u8 _, .u8 _, .u8 _, .u8 _, .u8 _, .u8 _, .u8 _, .u64 _, .nilsl, .err0 _ _, trivial⟩
set_option maxRecDepth 100000 in
theorem padded_ev (b : Bool) (key : List UInt8) (n : UInt64) (tl : List AV) (te : Nat) : Meets Tryd.prog 97 [.ptr 500 0] [(500, some ⟨dC b key n (tl), te, false⟩)] (.i64 ((aheadP b : Nat) : Int)) [] := by
  refine meets_of_ev (nt := 7) Tryd.func97 rfl rfl (Nat.le_of_ble_eq_true rfl) ?_
  refine .seq ?_
  refine .region ?_
  refine .q (op_assign rfl) trivial rfl ?_
  refine .nil ?_
  show Ev _ _ _ _ _
  refine .seq ?_
  refine .seq ?_
  refine .region ?_
  refine .q (op_move rfl) trivial rfl ?_
  refine .q (op_nilCheck rfl) trivial rfl ?_
  refine .q (op_fieldAddr (m := 0) Tryd.underlying62 rfl (by kernel_rfl) rfl) trivial rfl ?_
  refine .as (.ptr 500 0) rfl ?_
  refine .q (op_load Tryd.underlying4 rfl rfl rfl rfl (dC_lt (by decide))) trivial rfl ?_
  refine .nil ?_
  show Ev _ _ _ _ _
  refine .cond rfl (fun hc6 => ?_) (fun hc6 => ?_)
  · skip
    refine .seq ?_
    refine .region ?_
    refine .q (op_assign rfl) trivial rfl ?_
    refine .nil ?_
    show Ev _ _ _ _ _
    refine .ret ?_
    show RetOk _ _ _ _ _ _ _
    exact ret1v rfl (.inl rfl) rfl (by first | rw [hc6]; rfl) trivial
  · skip
    refine .skip ?_
    show Ev _ _ _ _ _
    refine .seq ?_
    refine .region ?_
    refine .q (op_assign rfl) trivial rfl ?_
    refine .nil ?_
    show Ev _ _ _ _ _
    refine .ret ?_
    show RetOk _ _ _ _ _ _ _
    exact ret1v rfl (.inl rfl) rfl (by first | rw [hc6]; rfl) trivial
set_option maxRecDepth 100000 in
theorem count_ev (b : Bool) (key : List UInt8) (n : UInt64) (tl : List AV) (te : Nat) : Meets Tryd.prog 38 [.ptr 500 0] [(500, some ⟨dC b key n (tl), te, false⟩)] (.u64 n) [] := by
  refine meets_of_ev (nt := 7) Tryd.func38 rfl rfl (Nat.le_of_ble_eq_true rfl) ?_
  refine .seq ?_
  refine .region ?_
  refine .q (op_assign rfl) trivial rfl ?_
  refine .nil ?_
  show Ev _ _ _ _ _
  refine .seq ?_
  refine .region ?_
  refine .q (op_move rfl) trivial rfl ?_
  refine .q (op_nilCheck rfl) trivial rfl ?_
  refine .q (op_fieldAddr (m := 0) Tryd.underlying62 rfl (by kernel_rfl) rfl) trivial rfl ?_
  refine .as (.ptr 500 33) rfl ?_
  refine .q (op_load Tryd.underlying44 rfl rfl rfl rfl (dC_lt (by decide))) trivial rfl ?_
  refine .q (op_assign rfl) trivial rfl ?_
  refine .nil ?_
  show Ev _ _ _ _ _
  refine .ret ?_
  show RetOk _ _ _ _ _ _ _
  exact ret1v rfl (.inl rfl) rfl (rfl) trivial
set_option maxRecDepth 100000 in
theorem nonce_ev (b : Bool) (key : List UInt8) (n : UInt64) (tl : List AV) (te : Nat) : Meets Tryd.prog 82 [.ptr 500 0] [(500, some ⟨dC b key n (tl), te, false⟩)] (.aggB (nonceP n)) [] := by
  refine meets_of_ev (nt := 15) Tryd.func82 rfl rfl (Nat.le_of_ble_eq_true rfl) ?_
  refine .seq ?_
  refine .region ?_
  refine .a (op_allocRow zero34 rel_zero34 rfl) trivial rfl ?_
  refine .nil ?_
  show Ev _ _ _ _ _
  refine .seq ?_
  refine .region ?_
  refine .a (op_allocRow zero118 rel_zero118 rfl) trivial rfl ?_
  refine .nil ?_
  show Ev _ _ _ _ _
  refine .seq ?_
  refine .region ?_
  refine .a (op_allocRow zero34 rel_zero34 rfl) trivial rfl ?_
  refine .nil ?_
  show Ev _ _ _ _ _
  refine .seq ?_
  refine .drawnF [[], [], [], [2], [2, 3], [2, 3, 4], [1, 2, 3, 4, 5], [1, 2, 3, 4, 5, 6], [0, 1, 2, 3, 4, 5, 6, 7]] [0, 1, 5, 6, 7, 8] [] [(0, ([1016], [])), (1, ([], [1008])), (5, ([500], [])), (6, ([], [1008, 1032])), (7, ([], [1008, 1072])), (8, ([], [1016]))] (by kernel_rfl) (by kernel_rfl) rfl ?_
  show DK _ [0, 1, 2, 3, 4, 5, 6, 7, 8] _ _ _
  refine .q rfl (ap_slice_arr_hi Tryd.underlying34 inf5.sz rfl rfl (by first | omega | (simp only [AV.len]; omega) | (simp only [AV.len]; omega) | assumption | (simp [AV.len]; done)) (by decide) rfl (by first | omega | (simp only [AV.len]; omega) | (simp only [AV.len, List.length_set]; omega) | assumption | (simp [AV.len]; done))) trivial ?_
  refine .a rfl (op_call (U := [(1008, some ⟨.agg [.ptr 1008 0, .sl 1032 0 (4) 1], 118, true⟩), (1032, some ⟨.aggB (numB (UInt32.toUInt64 0) 4 4), 5, true⟩)]) [(500, 1008)] [(1032, 1000)] (u320_ev 0) Tryd.func80 (by kernel_rfl) rfl rfl rfl (⟨⟨_, rfl, rfl, rfl⟩, ⟨_, rfl, rfl, rfl⟩, trivial⟩) (⟨⟨_, _, rfl, rfl, rfl, rfl, id, rfl⟩, trivial⟩) (⟨⟨500, _, rfl, rfl, rfl, rfl, .inr ⟨rfl, _, rfl, rfl⟩⟩, ⟨1000, _, rfl, rfl, rfl, rfl, .inl rfl⟩, trivial⟩) (⟨(fun _ => ⟨1008, _, rfl, rfl⟩), trivial⟩) rfl) trivial rfl rfl ?_
  refine .q rfl (op_move rfl) trivial ?_
  refine .q rfl (op_nilCheck rfl) trivial ?_
  refine .q rfl (op_fieldAddr (m := 0) Tryd.underlying62 rfl (by kernel_rfl) rfl) trivial ?_
  refine .as (.ptr 500 33) rfl ?_
  refine .q rfl (op_load Tryd.underlying44 rfl rfl rfl rfl (dC_lt (by decide))) trivial ?_
  refine .a rfl (op_call (U := [(1008, some ⟨.agg [.ptr 1008 0, .sl 1072 0 (4 + 8) 1], 118, true⟩), (1072, some ⟨.aggB (numB (UInt32.toUInt64 0) 4 4 ++ numB n 8 8), 5, true⟩), (1032, none)]) [(500, 1008), (501, 1032)] [(1072, 1000)] (u642_ev n (numB (UInt32.toUInt64 0) 4 4) 4 (by first | (simp [length_numB]; done) | (simp [length_numB, length_zP, length_headP]; omega) | omega) (by omega)) Tryd.func103 (by kernel_rfl) rfl rfl rfl (⟨⟨_, rfl, rfl, rfl⟩, ⟨_, rfl, rfl, rfl⟩, trivial⟩) (⟨⟨_, _, rfl, rfl, rfl, rfl, id, rfl⟩, ⟨_, _, rfl, rfl, rfl, rfl, id, rfl⟩, trivial⟩) (⟨⟨500, _, rfl, rfl, rfl, rfl, .inr ⟨rfl, _, rfl, rfl⟩⟩, ⟨1000, _, rfl, rfl, rfl, rfl, .inl rfl⟩, trivial⟩) (⟨(fun _ => ⟨1008, _, rfl, rfl⟩), (fun _ => ⟨1032, _, rfl, rfl⟩), trivial⟩) rfl) trivial rfl rfl ?_
  refine .a rfl (op_call (U := [(1072, some ⟨.aggB (numB (UInt32.toUInt64 0) 4 4 ++ numB n 8 8), (frz + 5), false⟩)]) [(500, 1008), (501, 1072)] [] (bytes2_ev (numB (UInt32.toUInt64 0) 4 4 ++ numB n 8 8) (4 + 8) (by first | (simp [length_numB]; done) | (simp [length_numB, length_zP, length_headP]; omega) | omega) (by omega) (by omega)) Tryd.func81 (by kernel_rfl) rfl rfl rfl (⟨⟨_, rfl, rfl, rfl⟩, trivial⟩) (⟨⟨_, _, rfl, rfl, rfl, rfl, (fun h => by cases h), rfl⟩, ⟨_, _, rfl, rfl, rfl, rfl, id, rfl⟩, trivial⟩) (⟨⟨501, _, rfl, rfl, rfl, rfl, .inr ⟨rfl, _, rfl, rfl⟩⟩, trivial⟩) (⟨(fun h => by cases h), (fun _ => ⟨1072, _, rfl, rfl⟩), trivial⟩) rfl) trivial rfl rfl ?_
  refine .a rfl (op_copy (q := 12) (c' := .aggB (nonceP n)) Tryd.underlying23 inf5.sz rfl rfl rfl (srcs_str rfl) (by show 0 + 12 ≤ 12; decide) (by simp [length_numB]) (by simp [AV.list, AV.parts, nonceP]; exact (List.take_of_length_le (by simp [length_numB])).symm)) trivial rfl rfl ?_
  refine .nil ?_
  show Ev _ _ _ _ _
  refine .seq ?_
  refine .region ?_
  refine .q (op_loadRow Tryd.underlying34 rfl sz34 rfl rfl rfl (by exact length_nonceP n)) trivial rfl ?_
  refine .w (op_storeRow sz34 rfl rfl rfl rfl rfl (by exact length_nonceP n) (by exact length_nonceP n)) trivial rfl ?_
  refine .nil ?_
  show Ev _ _ _ _ _
  refine .ret ?_
  show RetOk _ _ _ _ _ _ _
  exact retc1 rfl (.inl rfl) ⟨_, _, _, _, rfl, rfl, rfl, rfl, (length_nonceP n), Tryd.underlying34, rfl, sz34⟩ trivial
set_option maxRecDepth 100000 in
theorem dseal_ev (b : Bool) (key key2 : List UInt8) (hk2 : key2.length = 32) (n : UInt64) (tl : List AV) (te : Nat) : Meets Tryd.prog 78 [.ptr 500 0, .aggB key2] [(500, some ⟨dC b key n (tl), te, true⟩)] (.tup []) [(500, some ⟨dC true key2 n (tl), te, true⟩)] := by
  refine meets_of_ev (nt := 11) Tryd.func78 rfl rfl (Nat.le_of_ble_eq_true rfl) ?_
  refine .seq ?_
  refine .region ?_
  refine .a (op_boxRow rfl rfl) trivial rfl ?_
  refine .nil ?_
  show Ev _ _ _ _ _
  refine .seq ?_
  refine .region ?_
  refine .q (op_move rfl) trivial rfl ?_
  refine .q (op_nilCheck rfl) trivial rfl ?_
  refine .q (op_fieldAddr (m := 0) Tryd.underlying62 rfl (by kernel_rfl) rfl) trivial rfl ?_
  refine .as (.ptr 500 0) rfl ?_
  refine .w (op_store (c' := dC true key n tl) rfl rfl rfl rfl rfl rfl (dC_lt (by decide))) trivial rfl ?_
  refine .nil ?_
  show Ev _ _ _ _ _
  refine .region ?_
  refine .q (op_move rfl) trivial rfl ?_
  refine .q (op_loadRow Tryd.underlying22 rfl sz22 rfl rfl rfl (hk2)) trivial rfl ?_
  refine .q (op_nilCheck rfl) trivial rfl ?_
  refine .q (op_fieldAddr (m := 31) Tryd.underlying62 rfl (by kernel_rfl) rfl) trivial rfl ?_
  refine .as (.ptr 500 1) rfl ?_
  refine .w (op_storePart (m := 32) (cs := key2.map .u8) (c' := dC true key2 n tl) (by kernel_rfl) rfl rfl rfl rfl rfl (dC_keyL hk2) (by rw [dC_len]; omega) (dC_part hk2)) trivial rfl ?_
  refine .nil ?_
  show RetOk _ _ _ _ _ _ _
  exact ret0 rfl (.inr rfl) ⟨rfl, trivial⟩
set_option maxRecDepth 100000 in
theorem wseal_ev (b : Bool) (key key2 : List UInt8) (hk2 : key2.length = 32) (n : UInt64) : Meets Tryd.prog 32 [.ptr 500 0, .aggB key2] [(500, some ⟨dC b key n ([]), 64, true⟩)] (.tup []) [(500, some ⟨dC true key2 n ([]), 64, true⟩)] := by
  refine meets_of_ev (nt := 9) Tryd.func32 rfl rfl (Nat.le_of_ble_eq_true rfl) ?_
  refine .seq ?_
  refine .region ?_
  refine .a (op_boxRow rfl rfl) trivial rfl ?_
  refine .nil ?_
  show Ev _ _ _ _ _
  refine .drawnF [[], [0], [0, 1], [], [0, 1, 2, 3]] [3, 4] [] [(3, ([1000], [])), (4, ([], [500]))] (by kernel_rfl) (by kernel_rfl) rfl ?_
  show DK _ [0, 1, 2, 3, 4] _ _ _
  refine .q rfl (op_move rfl) trivial ?_
  refine .q rfl (op_nilCheck rfl) trivial ?_
  refine .q rfl (op_fieldAddr (m := 33) Tryd.underlying64 rfl (by kernel_rfl) rfl) trivial ?_
  refine .as (.ptr 500 0) rfl ?_
  refine .q rfl (op_loadRow Tryd.underlying22 rfl sz22 rfl rfl rfl (hk2)) trivial ?_
  refine .a rfl (op_call (U := [(500, some ⟨dC true key2 n [], 64, true⟩)]) [(500, 500)] [] (dseal_ev b key key2 hk2 n [] 64) Tryd.func78 (by kernel_rfl) rfl rfl rfl (⟨⟨_, rfl, rfl, rfl⟩, ⟨_, rfl, rfl, rfl⟩, trivial⟩) (⟨⟨_, _, rfl, rfl, rfl, rfl, id, rfl⟩, trivial⟩) (⟨⟨500, _, rfl, rfl, rfl, rfl, .inr ⟨rfl, _, rfl, rfl⟩⟩, trivial⟩) (⟨(fun _ => ⟨500, _, rfl, rfl⟩), trivial⟩) rfl) trivial rfl rfl ?_
  refine .nil ?_
  show RetOk _ _ _ _ _ _ _
  exact ret0 rfl (.inr rfl) ⟨rfl, trivial⟩
set_option maxRecDepth 100000 in
theorem ropen_ev12 (b : Bool) (key key2 : List UInt8) (hk2 : key2.length = 32) (n : UInt64) (eo : Nat → Nat × Nat) : Meets Tryd.prog 33 [.ptr 500 0, .aggB key2] [(500, some ⟨dC b key n ([.nilsl, .err 192 (0) (offE eo (0))]), 66, true⟩)] (.tup []) [(500, some ⟨dC true key2 n ([.nilsl, .err 192 (0) (offE eo (0))]), 66, true⟩)] := by
  refine meets_of_ev (nt := 9) Tryd.func33 rfl rfl (Nat.le_of_ble_eq_true rfl) ?_
  refine .seq ?_
  refine .region ?_
  refine .a (op_boxRow rfl rfl) trivial rfl ?_
  refine .nil ?_
  show Ev _ _ _ _ _
  refine .drawnF [[], [0], [0, 1], [], [0, 1, 2, 3]] [3, 4] [] [(3, ([1000], [])), (4, ([], [500]))] (by kernel_rfl) (by kernel_rfl) rfl ?_
  show DK _ [0, 1, 2, 3, 4] _ _ _
  refine .q rfl (op_move rfl) trivial ?_
  refine .q rfl (op_nilCheck rfl) trivial ?_
  refine .q rfl (op_fieldAddr (m := 33) Tryd.underlying66 rfl (by kernel_rfl) rfl) trivial ?_
  refine .as (.ptr 500 0) rfl ?_
  refine .q rfl (op_loadRow Tryd.underlying22 rfl sz22 rfl rfl rfl (hk2)) trivial ?_
  refine .a rfl (op_call (U := [(500, some ⟨dC true key2 n [.nilsl, .err 192 (0) (offE eo (0))], 66, true⟩)]) [(500, 500)] [] (dseal_ev b key key2 hk2 n [.nilsl, .err 192 (0) (offE eo (0))] 66) Tryd.func78 (by kernel_rfl) rfl rfl rfl (⟨⟨_, rfl, rfl, rfl⟩, ⟨_, rfl, rfl, rfl⟩, trivial⟩) (⟨⟨_, _, rfl, rfl, rfl, rfl, id, rfl⟩, trivial⟩) (⟨⟨500, _, rfl, rfl, rfl, rfl, .inr ⟨rfl, _, rfl, rfl⟩⟩, trivial⟩) (⟨(fun _ => ⟨500, _, rfl, rfl⟩), trivial⟩) rfl) trivial rfl rfl ?_
  refine .nil ?_
  show RetOk _ _ _ _ _ _ _
  exact ret0 rfl (.inr rfl) ⟨rfl, trivial⟩
end Go.Proofs.YtgblhjmnenmlkaaDoor
namespace Go.Proofs.YtgblhjmnenmlkaaDoor
open Go.RowKit
set_option maxRecDepth 100000 in
theorem body_ev (b : Bool) (key : List UInt8) (n : UInt64) (p : List UInt8) (hp : p.length ≤ 100000) : Meets Tryd.prog 79 [.ptr 500 0, .str p] [(500, some ⟨dC b key n ([]), 64, false⟩)] (.str (bodyP b p)) [] := by
  have hpad := padP_le b p.length
  have hah := ahead_le b
  have hz := length_zP (padP b p.length)
  refine meets_of_ev (nt := 31) Tryd.func79 rfl rfl (Nat.le_of_ble_eq_true rfl) ?_
  refine .seq ?_
  refine .region ?_
  refine .q (op_assign rfl) trivial rfl ?_
  refine .nil ?_
  show Ev _ _ _ _ _
  refine .seq ?_
  refine .region ?_
  refine .q (op_move rfl) trivial rfl ?_
  refine .q (op_nilCheck rfl) trivial rfl ?_
  refine .q (op_fieldAddr (m := 33) Tryd.underlying64 rfl (by kernel_rfl) rfl) trivial rfl ?_
  refine .as (.ptr 500 0) rfl ?_
  refine .q (op_call (U := []) [(500, 500)] [] (padded_ev b key n [] 64) Tryd.func97 (by kernel_rfl) rfl rfl rfl (⟨⟨_, rfl, rfl, rfl⟩, trivial⟩) (⟨⟨_, _, rfl, rfl, rfl, rfl, (fun h => by cases h), rfl⟩, trivial⟩) (trivial) (⟨(fun h => by cases h), trivial⟩) rfl) trivial rfl ?_
  refine .q (op_addI rfl rfl ⟨by first | omega | (simp only [AV.len]; omega) | (simp only [AV.len, List.length_set]; omega) | assumption | (simp [AV.len]; done), by first | omega | (simp only [AV.len]; omega) | (simp only [AV.len, List.length_set]; omega) | assumption | (simp [AV.len]; done)⟩) trivial rfl ?_
  refine .q (op_move rfl) trivial rfl ?_
  refine .q (op_len_str Tryd.underlying9 rfl) trivial rfl ?_
  refine .q (op_addI rfl rfl ⟨by first | omega | (simp only [AV.len]; omega) | (simp only [AV.len, List.length_set]; omega) | assumption | (simp [AV.len]; done), by first | omega | (simp only [AV.len]; omega) | (simp only [AV.len, List.length_set]; omega) | assumption | (simp [AV.len]; done)⟩) trivial rfl ?_
  refine .q (op_addI rfl rfl ⟨by first | omega | (simp only [AV.len]; omega) | (simp only [AV.len, List.length_set]; omega) | assumption | (simp [AV.len]; done), by first | omega | (simp only [AV.len]; omega) | (simp only [AV.len, List.length_set]; omega) | assumption | (simp [AV.len]; done)⟩) trivial rfl ?_
  refine .as (.i64 ((aheadP b + 1 + p.length + 4 : Nat) : Int)) (congrArg AV.i64 (by omega)) ?_
  refine .q (op_assign rfl) trivial rfl ?_
  refine .nil ?_
  show Ev _ _ _ _ _
  refine .seq ?_
  refine .region ?_
  refine .q (op_move rfl) trivial rfl ?_
  refine .q (op_remI rfl rfl ⟨by first | omega | (simp only [AV.len]; omega) | (simp only [AV.len, List.length_set]; omega) | assumption | (simp [AV.len]; done), by first | omega | (simp only [AV.len]; omega) | (simp only [AV.len, List.length_set]; omega) | assumption | (simp [AV.len]; done)⟩) trivial rfl ?_
  refine .q (op_subI rfl rfl ⟨by first | omega | (simp only [AV.len]; omega) | (simp only [AV.len, List.length_set]; omega) | assumption | (simp [AV.len]; done), by first | omega | (simp only [AV.len]; omega) | (simp only [AV.len, List.length_set]; omega) | assumption | (simp [AV.len]; done)⟩) trivial rfl ?_
  refine .q (op_remI rfl rfl ⟨by first | omega | (simp only [AV.len]; omega) | (simp only [AV.len, List.length_set]; omega) | assumption | (simp [AV.len]; done), by first | omega | (simp only [AV.len]; omega) | (simp only [AV.len, List.length_set]; omega) | assumption | (simp [AV.len]; done)⟩) trivial rfl ?_
  refine .q (op_addI rfl rfl ⟨by first | omega | (simp only [AV.len]; omega) | (simp only [AV.len, List.length_set]; omega) | assumption | (simp [AV.len]; done), by first | omega | (simp only [AV.len]; omega) | (simp only [AV.len, List.length_set]; omega) | assumption | (simp [AV.len]; done)⟩) trivial rfl ?_
  refine .as (.i64 (((padP b p.length) : Nat) : Int)) (congrArg AV.i64 (by unfold padP; omega)) ?_
  refine .q (op_assign rfl) trivial rfl ?_
  refine .nil ?_
  show Ev _ _ _ _ _
  refine .seq ?_
  refine .region ?_
  refine .a (op_allocRow zero118 rel_zero118 rfl) trivial rfl ?_
  refine .nil ?_
  show Ev _ _ _ _ _
  refine .seq ?_
  refine .region ?_
  refine .q (op_move rfl) trivial rfl ?_
  refine .q (op_conv Tryd.underlying3 Tryd.underlying5 rfl rfl) trivial rfl ?_
  refine .a (op_call (U := [(1000, some ⟨.agg [.ptr 1000 0, .sl 1008 0 (1) 1], 118, true⟩), (1008, some ⟨.aggB ([(ofI8 (((padP b p.length) : Nat) : Int))]), 5, true⟩)]) [(500, 1000)] [(1008, 1000)] (byte0_ev (ofI8 (((padP b p.length) : Nat) : Int))) Tryd.func98 (by kernel_rfl) rfl rfl rfl (⟨⟨_, rfl, rfl, rfl⟩, ⟨_, rfl, rfl, rfl⟩, trivial⟩) (⟨⟨_, _, rfl, rfl, rfl, rfl, id, rfl⟩, trivial⟩) (⟨⟨500, _, rfl, rfl, rfl, rfl, .inr ⟨rfl, _, rfl, rfl⟩⟩, ⟨1000, _, rfl, rfl, rfl, rfl, .inl rfl⟩, trivial⟩) (⟨(fun _ => ⟨1000, _, rfl, rfl⟩), trivial⟩) rfl) trivial rfl ?_
  refine .q (op_move rfl) trivial rfl ?_
  refine .a (op_call (U := [(1000, some ⟨.agg [.ptr 1000 0, .sl 1016 0 (1 + p.length) 1], 118, true⟩), (1016, some ⟨.aggB (([(ofI8 (((padP b p.length) : Nat) : Int))]) ++ p), 5, true⟩), (1008, none)]) [(500, 1000), (501, 1008)] [(1016, 1000)] (raw2_ev p (by omega) (([(ofI8 (((padP b p.length) : Nat) : Int))])) (1) (by first | (simp; done) | (simp [length_numB, length_zP, length_headP]; omega) | omega) (by omega)) Tryd.func99 (by kernel_rfl) rfl rfl rfl (⟨⟨_, rfl, rfl, rfl⟩, ⟨_, rfl, rfl, rfl⟩, trivial⟩) (⟨⟨_, _, rfl, rfl, rfl, rfl, id, rfl⟩, ⟨_, _, rfl, rfl, rfl, rfl, id, rfl⟩, trivial⟩) (⟨⟨500, _, rfl, rfl, rfl, rfl, .inr ⟨rfl, _, rfl, rfl⟩⟩, ⟨1000, _, rfl, rfl, rfl, rfl, .inl rfl⟩, trivial⟩) (⟨(fun _ => ⟨1000, _, rfl, rfl⟩), (fun _ => ⟨1008, _, rfl, rfl⟩), trivial⟩) rfl) trivial rfl ?_
  refine .q (op_move rfl) trivial rfl ?_
  refine .q (op_call (U := []) [] [] (repeat_ev (padP b p.length) (by omega)) Tryd.func100 (by kernel_rfl) rfl rfl rfl (⟨⟨_, rfl, rfl, rfl⟩, ⟨_, rfl, rfl, rfl⟩, trivial⟩) (trivial) (trivial) (trivial) rfl) trivial rfl ?_
  refine .a (op_call (U := [(1000, some ⟨.agg [.ptr 1000 0, .sl 1024 0 (1 + p.length + (zP (padP b p.length)).length) 1], 118, true⟩), (1024, some ⟨.aggB ((([(ofI8 (((padP b p.length) : Nat) : Int))]) ++ p) ++ (zP (padP b p.length))), 5, true⟩), (1016, none)]) [(500, 1000), (501, 1016)] [(1024, 1000)] (raw2_ev (zP (padP b p.length)) (by rw [length_zP]; omega) ((([(ofI8 (((padP b p.length) : Nat) : Int))]) ++ p)) (1 + p.length) (by first | (simp; done) | (simp; omega) | omega) (by omega)) Tryd.func99 (by kernel_rfl) rfl rfl rfl (⟨⟨_, rfl, rfl, rfl⟩, ⟨_, rfl, rfl, rfl⟩, trivial⟩) (⟨⟨_, _, rfl, rfl, rfl, rfl, id, rfl⟩, ⟨_, _, rfl, rfl, rfl, rfl, id, rfl⟩, trivial⟩) (⟨⟨500, _, rfl, rfl, rfl, rfl, .inr ⟨rfl, _, rfl, rfl⟩⟩, ⟨1000, _, rfl, rfl, rfl, rfl, .inl rfl⟩, trivial⟩) (⟨(fun _ => ⟨1000, _, rfl, rfl⟩), (fun _ => ⟨1016, _, rfl, rfl⟩), trivial⟩) rfl) trivial rfl ?_
  refine .a (op_call (U := [(1024, some ⟨.aggB (((([(ofI8 (((padP b p.length) : Nat) : Int))]) ++ p) ++ (zP (padP b p.length)))), (frz + 5), false⟩)]) [(500, 1000), (501, 1024)] [] (bytes2_ev (((([(ofI8 (((padP b p.length) : Nat) : Int))]) ++ p) ++ (zP (padP b p.length)))) (1 + p.length + (zP (padP b p.length)).length) (by first | (simp [length_zP]; done) | (simp [length_zP]; omega) | omega) (by omega) (by omega)) Tryd.func81 (by kernel_rfl) rfl rfl rfl (⟨⟨_, rfl, rfl, rfl⟩, trivial⟩) (⟨⟨_, _, rfl, rfl, rfl, rfl, (fun h => by cases h), rfl⟩, ⟨_, _, rfl, rfl, rfl, rfl, id, rfl⟩, trivial⟩) (⟨⟨501, _, rfl, rfl, rfl, rfl, .inr ⟨rfl, _, rfl, rfl⟩⟩, trivial⟩) (⟨(fun h => by cases h), (fun _ => ⟨1024, _, rfl, rfl⟩), trivial⟩) rfl) trivial rfl ?_
  refine .q (op_assign rfl) trivial rfl ?_
  refine .nil ?_
  show Ev _ _ _ _ _
  refine .ret ?_
  show RetOk _ _ _ _ _ _ _
  exact ret1v rfl (.inl rfl) rfl rfl trivial
set_option maxRecDepth 100000 in
theorem pack_end (b : Bool) (key : List UInt8) (n : UInt64) (eo : Nat → Nat × Nat) : Meets Tryd.prog 34 [.ptr 500 0, .str []] [(500, some ⟨dC b key n ([]), 64, false⟩), (0, some ⟨.agg [.err 192 (2) (offE eo (2))], errT, false⟩)] (.tup [.str [], .err 192 (2) (offE eo (2))]) [] := by
  refine meets_of_ev (nt := 53) Tryd.func34 rfl rfl (Nat.le_of_ble_eq_true rfl) ?_
  refine .seq ?_
  refine .region ?_
  refine .q (op_assign rfl) trivial rfl ?_
  refine .q (op_assign rfl) trivial rfl ?_
  refine .nil ?_
  show Ev _ _ _ _ _
  refine .seq ?_
  refine .seq ?_
  refine .region ?_
  refine .q (op_move rfl) trivial rfl ?_
  refine .q (op_eqS rfl rfl rfl) trivial rfl ?_
  refine .nil ?_
  show Ev _ _ _ _ _
  refine .cond_true rfl (rfl) ?_
  refine .seq ?_
  refine .drawn [[], [], [0, 1]] [0] [] (by kernel_rfl) (by kernel_rfl) rfl ?_
  show DK _ [0, 1, 2] _ _ _
  refine .q rfl (op_load Tryd.underlying31 rfl rfl rfl rfl (by first | omega | (simp only [AV.len]; omega) | (simp only [AV.len]; omega) | assumption | (simp [AV.len]; done))) trivial ?_
  refine .q rfl (op_assign rfl) trivial ?_
  refine .q rfl (op_assign rfl) trivial ?_
  refine .nil ?_
  show Ev _ _ _ _ _
  refine .ret ?_
  show RetOk _ _ _ _ _ _ _
  exact ret2v rfl (.inl rfl) rfl rfl rfl rfl trivial
set_option maxRecDepth 100000 in
theorem pack_big (b : Bool) (key : List UInt8) (n : UInt64) (p : List UInt8) (h1 : 32768 < p.length) (h2 : p.length ≤ 100000) (eo : Nat → Nat × Nat) : Meets Tryd.prog 34 [.ptr 500 0, .str p] [(500, some ⟨dC b key n ([]), 64, false⟩), (4, some ⟨.agg [.err 192 (4) (offE eo (4))], errT, false⟩)] (.tup [.str [], .err 192 (4) (offE eo (4))]) [] := by
  refine meets_of_ev (nt := 53) Tryd.func34 rfl rfl (Nat.le_of_ble_eq_true rfl) ?_
  refine .seq ?_
  refine .region ?_
  refine .q (op_assign rfl) trivial rfl ?_
  refine .q (op_assign rfl) trivial rfl ?_
  refine .nil ?_
  show Ev _ _ _ _ _
  refine .seq ?_
  refine .seq ?_
  refine .region ?_
  refine .q (op_move rfl) trivial rfl ?_
  refine .q (op_eqS rfl rfl rfl) trivial rfl ?_
  refine .nil ?_
  show Ev _ _ _ _ _
  refine .cond_false rfl (beq_eq_false_iff_ne.2 (fun h => by rw [h] at h1; simp at h1)) ?_
  refine .skip ?_
  show Ev _ _ _ _ _
  refine .seq ?_
  refine .seq ?_
  refine .region ?_
  refine .q (op_move rfl) trivial rfl ?_
  refine .q (op_len_str Tryd.underlying9 rfl) trivial rfl ?_
  refine .q (op_cmpI rfl rfl rfl) trivial rfl ?_
  refine .nil ?_
  show Ev _ _ _ _ _
  refine .cond_true rfl (decide_eq_true (by omega)) ?_
  refine .seq ?_
  refine .drawn [[], [], [0, 1]] [0] [] (by kernel_rfl) (by kernel_rfl) rfl ?_
  show DK _ [0, 1, 2] _ _ _
  refine .q rfl (op_load Tryd.underlying31 rfl rfl rfl rfl (by first | omega | (simp only [AV.len]; omega) | (simp only [AV.len]; omega) | assumption | (simp [AV.len]; done))) trivial ?_
  refine .q rfl (op_assign rfl) trivial ?_
  refine .q rfl (op_assign rfl) trivial ?_
  refine .nil ?_
  show Ev _ _ _ _ _
  refine .ret ?_
  show RetOk _ _ _ _ _ _ _
  exact ret2v rfl (.inl rfl) rfl rfl rfl rfl trivial
set_option maxRecDepth 100000 in
theorem pack_t (e : Nat) (key : List UInt8) (hk : key.length = 32) (n : UInt64) (p : List UInt8) (h1 : 1 ≤ p.length) (h2 : p.length ≤ 32768) (eo : Nat → Nat × Nat) : Meets Tryd.prog 34 [.ptr 500 0, .str p] [(500, some ⟨dC true key n ([]), 64, true⟩), (21, some ⟨.aggI qsTab, e, false⟩)] (.tup [.str (packP true key n p), .err 192 (0) (offE eo (0))]) [(500, some ⟨dC true key (n + 1) ([]), 64, true⟩)] := by
  have hl := length_bodyP true p
  have hpad := padP_le true p.length
  refine meets_of_ev (nt := 53) Tryd.func34 rfl rfl (Nat.le_of_ble_eq_true rfl) ?_
  refine .seq ?_
  refine .region ?_
  refine .q (op_assign rfl) trivial rfl ?_
  refine .q (op_assign rfl) trivial rfl ?_
  refine .nil ?_
  show Ev _ _ _ _ _
  refine .seq ?_
  refine .seq ?_
  refine .region ?_
  refine .q (op_move rfl) trivial rfl ?_
  refine .q (op_eqS rfl rfl rfl) trivial rfl ?_
  refine .nil ?_
  show Ev _ _ _ _ _
  refine .cond_false rfl (beq_eq_false_iff_ne.2 (fun h => by rw [h] at h1; simp at h1)) ?_
  refine .skip ?_
  show Ev _ _ _ _ _
  refine .seq ?_
  refine .seq ?_
  refine .region ?_
  refine .q (op_move rfl) trivial rfl ?_
  refine .q (op_len_str Tryd.underlying9 rfl) trivial rfl ?_
  refine .q (op_cmpI rfl rfl rfl) trivial rfl ?_
  refine .nil ?_
  show Ev _ _ _ _ _
  refine .cond_false rfl (decide_eq_false (by omega)) ?_
  refine .skip ?_
  show Ev _ _ _ _ _
  refine .seq ?_
  refine .region ?_
  refine .q (op_move rfl) trivial rfl ?_
  refine .q (op_move rfl) trivial rfl ?_
  refine .q (op_call (U := []) [(500, 500)] [] (body_ev true key n p (by omega)) Tryd.func79 (by kernel_rfl) rfl rfl rfl (⟨⟨_, rfl, rfl, rfl⟩, ⟨_, rfl, rfl, rfl⟩, trivial⟩) (⟨⟨_, _, rfl, rfl, rfl, rfl, (fun h => by cases h), rfl⟩, trivial⟩) (trivial) (⟨(fun h => by cases h), trivial⟩) rfl) trivial rfl ?_
  refine .q (op_assign rfl) trivial rfl ?_
  refine .nil ?_
  show Ev _ _ _ _ _
  refine .seq ?_
  refine .region ?_
  refine .a (op_allocRow zero118 rel_zero118 rfl) trivial rfl ?_
  refine .nil ?_
  show Ev _ _ _ _ _
  refine .seq ?_
  refine .region ?_
  refine .q (op_move rfl) trivial rfl ?_
  refine .q (op_len_str Tryd.underlying9 rfl) trivial rfl ?_
  refine .q (op_conv Tryd.underlying3 Tryd.underlying99 rfl rfl) trivial rfl ?_
  refine .a (op_call (U := [(1000, some ⟨.agg [.ptr 1000 0, .sl 1008 0 (4) 1], 118, true⟩), (1008, some ⟨.aggB ((headP (bodyP true p).length)), 5, true⟩)]) [(500, 1000)] [(1008, 1000)] (u320_ev (ofI32 (((bodyP true p).length : Nat) : Int))) Tryd.func80 (by kernel_rfl) rfl rfl rfl (⟨⟨_, rfl, rfl, rfl⟩, ⟨_, rfl, rfl, rfl⟩, trivial⟩) (⟨⟨_, _, rfl, rfl, rfl, rfl, id, rfl⟩, trivial⟩) (⟨⟨500, _, rfl, rfl, rfl, rfl, .inr ⟨rfl, _, rfl, rfl⟩⟩, ⟨1000, _, rfl, rfl, rfl, rfl, .inl rfl⟩, trivial⟩) (⟨(fun _ => ⟨1000, _, rfl, rfl⟩), trivial⟩) rfl) trivial rfl ?_
  refine .a (op_call (U := [(1008, some ⟨.aggB (((headP (bodyP true p).length))), (frz + 5), false⟩)]) [(500, 1000), (501, 1008)] [] (bytes2_ev (((headP (bodyP true p).length))) (4) (by first | (simp [length_headP]; done) | (simp [length_numB, length_zP, length_headP]; omega) | omega) (by omega) (by omega)) Tryd.func81 (by kernel_rfl) rfl rfl rfl (⟨⟨_, rfl, rfl, rfl⟩, trivial⟩) (⟨⟨_, _, rfl, rfl, rfl, rfl, (fun h => by cases h), rfl⟩, ⟨_, _, rfl, rfl, rfl, rfl, id, rfl⟩, trivial⟩) (⟨⟨501, _, rfl, rfl, rfl, rfl, .inr ⟨rfl, _, rfl, rfl⟩⟩, trivial⟩) (⟨(fun h => by cases h), (fun _ => ⟨1008, _, rfl, rfl⟩), trivial⟩) rfl) trivial rfl ?_
  refine .q (op_assign rfl) trivial rfl ?_
  refine .nil ?_
  show Ev _ _ _ _ _
  refine .seq ?_
  refine .seq ?_
  refine .region ?_
  refine .q (op_move rfl) trivial rfl ?_
  refine .q (op_nilCheck rfl) trivial rfl ?_
  refine .q (op_fieldAddr (m := 33) Tryd.underlying64 rfl (by kernel_rfl) rfl) trivial rfl ?_
  refine .as (.ptr 500 0) rfl ?_
  refine .q (op_fieldAddr (m := 0) Tryd.underlying62 rfl (by kernel_rfl) rfl) trivial rfl ?_
  refine .as (.ptr 500 0) rfl ?_
  refine .q (op_load Tryd.underlying4 rfl rfl rfl rfl (dC_lt (by decide))) trivial rfl ?_
  refine .nil ?_
  show Ev _ _ _ _ _
  refine .cond_true rfl (rfl) ?_
  refine .drawn [[], [0], [0, 1], [0, 1, 2], [0, 1, 2, 3], [], [5], [5, 6], [5, 6, 7], [], [], [0, 1, 2, 3, 4, 5, 6, 7, 8, 9, 10], [0, 1, 2, 3, 4, 5, 6, 7, 8, 9, 10, 11]] [4, 8, 11] [] (by kernel_rfl) (by kernel_rfl) rfl ?_
  show DK _ [0, 1, 2, 3, 4, 5, 6, 7, 8, 9, 10, 11, 12] _ _ _
  refine .q rfl (op_move rfl) trivial ?_
  refine .q rfl (op_nilCheck rfl) trivial ?_
  refine .q rfl (op_fieldAddr (m := 33) Tryd.underlying64 rfl (by kernel_rfl) rfl) trivial ?_
  refine .as (.ptr 500 0) rfl ?_
  refine .q rfl (op_fieldAddr (m := 31) Tryd.underlying62 rfl (by kernel_rfl) rfl) trivial ?_
  refine .as (.ptr 500 1) rfl ?_
  refine .q rfl (op_loadPart (m := 32) (r := .aggB key) (cs := key.map .u8) Tryd.underlying22 rfl (by kernel_rfl) rfl rfl rfl (dC_keyL hk) (dC_key hk) (by rw [dC_len]; omega)) trivial ?_
  refine .q rfl (op_move rfl) trivial ?_
  refine .q rfl (op_nilCheck rfl) trivial ?_
  refine .q rfl (op_fieldAddr (m := 33) Tryd.underlying64 rfl (by kernel_rfl) rfl) trivial ?_
  refine .as (.ptr 500 0) rfl ?_
  refine .q rfl (op_call (U := []) [(500, 500)] [] (nonce_ev true key n [] 64) Tryd.func82 (by kernel_rfl) rfl rfl rfl (⟨⟨_, rfl, rfl, rfl⟩, trivial⟩) (⟨⟨_, _, rfl, rfl, rfl, rfl, (fun h => by cases h), rfl⟩, trivial⟩) (trivial) (⟨(fun h => by cases h), trivial⟩) rfl) trivial ?_
  refine .q rfl (op_move rfl) trivial ?_
  refine .q rfl (op_move rfl) trivial ?_
  refine .q rfl (op_call (U := []) [] [] (seal_ev e key (nonceP n) (bodyP true p) (headP (bodyP true p).length) hk (length_nonceP n) (by omega) (by rw [length_headP]; omega)) Tryd.func16 (by kernel_rfl) rfl rfl rfl (⟨⟨_, rfl, rfl, rfl⟩, ⟨_, rfl, rfl, rfl⟩, ⟨_, rfl, rfl, rfl⟩, ⟨_, rfl, rfl, rfl⟩, trivial⟩) (⟨⟨_, _, rfl, rfl, rfl, rfl, (fun h => by cases h), rfl⟩, trivial⟩) (trivial) (⟨(fun h => by cases h), trivial⟩) rfl) trivial ?_
  refine .as (.str (restP true key n p)) rfl ?_
  refine .q rfl (op_assign rfl) trivial ?_
  refine .nil ?_
  show Ev _ _ _ _ _
  refine .seq ?_
  refine .region ?_
  refine .q (op_move rfl) trivial rfl ?_
  refine .q (op_nilCheck rfl) trivial rfl ?_
  refine .q (op_fieldAddr (m := 33) Tryd.underlying64 rfl (by kernel_rfl) rfl) trivial rfl ?_
  refine .as (.ptr 500 0) rfl ?_
  refine .q (op_fieldAddr (m := 0) Tryd.underlying62 rfl (by kernel_rfl) rfl) trivial rfl ?_
  refine .as (.ptr 500 33) rfl ?_
  refine .q (op_load Tryd.underlying44 rfl rfl rfl rfl (dC_lt (by decide))) trivial rfl ?_
  refine .q (op_bin64 rfl rfl rfl) trivial rfl ?_
  refine .q (op_nilCheck rfl) trivial rfl ?_
  refine .q (op_fieldAddr (m := 33) Tryd.underlying64 rfl (by kernel_rfl) rfl) trivial rfl ?_
  refine .as (.ptr 500 0) rfl ?_
  refine .q (op_fieldAddr (m := 0) Tryd.underlying62 rfl (by kernel_rfl) rfl) trivial rfl ?_
  refine .as (.ptr 500 33) rfl ?_
  refine .w (op_store (c' := dC true key (n + 1) []) rfl rfl rfl rfl rfl rfl (dC_lt (by decide))) trivial rfl ?_
  refine .nil ?_
  show Ev _ _ _ _ _
  refine .seq ?_
  refine .region ?_
  refine .q (op_move rfl) trivial rfl ?_
  refine .q (op_move rfl) trivial rfl ?_
  refine .q (op_addS rfl rfl (by rw [length_headP]; rw [length_restP]; simp only [tagP]; omega)) trivial rfl ?_
  refine .as (.str (packP true key n p)) rfl ?_
  refine .q (op_assign rfl) trivial rfl ?_
  refine .q (op_assign rfl) trivial rfl ?_
  refine .asR (.err 192 (0) (offE eo (0))) (nil_err _ _) ?_
  refine .nil ?_
  show Ev _ _ _ _ _
  refine .ret ?_
  show RetOk _ _ _ _ _ _ _
  exact ret2v rfl (.inl rfl) rfl rfl rfl rfl ⟨rfl, trivial⟩
set_option maxRecDepth 100000 in
theorem pack_f (_e : Nat) (key : List UInt8) (_hk : key.length = 32) (n : UInt64) (p : List UInt8) (h1 : 1 ≤ p.length) (h2 : p.length ≤ 32768) (eo : Nat → Nat × Nat) : Meets Tryd.prog 34 [.ptr 500 0, .str p] [(500, some ⟨dC false key n ([]), 64, true⟩)] (.tup [.str (packP false key n p), .err 192 (0) (offE eo (0))]) [(500, some ⟨dC false key (n + 1) ([]), 64, true⟩)] := by
  have hl := length_bodyP false p
  have hpad := padP_le false p.length
  refine meets_of_ev (nt := 53) Tryd.func34 rfl rfl (Nat.le_of_ble_eq_true rfl) ?_
  refine .seq ?_
  refine .region ?_
  refine .q (op_assign rfl) trivial rfl ?_
  refine .q (op_assign rfl) trivial rfl ?_
  refine .nil ?_
  show Ev _ _ _ _ _
  refine .seq ?_
  refine .seq ?_
  refine .region ?_
  refine .q (op_move rfl) trivial rfl ?_
  refine .q (op_eqS rfl rfl rfl) trivial rfl ?_
  refine .nil ?_
  show Ev _ _ _ _ _
  refine .cond_false rfl (beq_eq_false_iff_ne.2 (fun h => by rw [h] at h1; simp at h1)) ?_
  refine .skip ?_
  show Ev _ _ _ _ _
  refine .seq ?_
  refine .seq ?_
  refine .region ?_
  refine .q (op_move rfl) trivial rfl ?_
  refine .q (op_len_str Tryd.underlying9 rfl) trivial rfl ?_
  refine .q (op_cmpI rfl rfl rfl) trivial rfl ?_
  refine .nil ?_
  show Ev _ _ _ _ _
  refine .cond_false rfl (decide_eq_false (by omega)) ?_
  refine .skip ?_
  show Ev _ _ _ _ _
  refine .seq ?_
  refine .region ?_
  refine .q (op_move rfl) trivial rfl ?_
  refine .q (op_move rfl) trivial rfl ?_
  refine .q (op_call (U := []) [(500, 500)] [] (body_ev false key n p (by omega)) Tryd.func79 (by kernel_rfl) rfl rfl rfl (⟨⟨_, rfl, rfl, rfl⟩, ⟨_, rfl, rfl, rfl⟩, trivial⟩) (⟨⟨_, _, rfl, rfl, rfl, rfl, (fun h => by cases h), rfl⟩, trivial⟩) (trivial) (⟨(fun h => by cases h), trivial⟩) rfl) trivial rfl ?_
  refine .q (op_assign rfl) trivial rfl ?_
  refine .nil ?_
  show Ev _ _ _ _ _
  refine .seq ?_
  refine .region ?_
  refine .a (op_allocRow zero118 rel_zero118 rfl) trivial rfl ?_
  refine .nil ?_
  show Ev _ _ _ _ _
  refine .seq ?_
  refine .region ?_
  refine .q (op_move rfl) trivial rfl ?_
  refine .q (op_len_str Tryd.underlying9 rfl) trivial rfl ?_
  refine .q (op_conv Tryd.underlying3 Tryd.underlying99 rfl rfl) trivial rfl ?_
  refine .a (op_call (U := [(1000, some ⟨.agg [.ptr 1000 0, .sl 1008 0 (4) 1], 118, true⟩), (1008, some ⟨.aggB ((headP (bodyP false p).length)), 5, true⟩)]) [(500, 1000)] [(1008, 1000)] (u320_ev (ofI32 (((bodyP false p).length : Nat) : Int))) Tryd.func80 (by kernel_rfl) rfl rfl rfl (⟨⟨_, rfl, rfl, rfl⟩, ⟨_, rfl, rfl, rfl⟩, trivial⟩) (⟨⟨_, _, rfl, rfl, rfl, rfl, id, rfl⟩, trivial⟩) (⟨⟨500, _, rfl, rfl, rfl, rfl, .inr ⟨rfl, _, rfl, rfl⟩⟩, ⟨1000, _, rfl, rfl, rfl, rfl, .inl rfl⟩, trivial⟩) (⟨(fun _ => ⟨1000, _, rfl, rfl⟩), trivial⟩) rfl) trivial rfl ?_
  refine .a (op_call (U := [(1008, some ⟨.aggB (((headP (bodyP false p).length))), (frz + 5), false⟩)]) [(500, 1000), (501, 1008)] [] (bytes2_ev (((headP (bodyP false p).length))) (4) (by first | (simp [length_headP]; done) | (simp [length_numB, length_zP, length_headP]; omega) | omega) (by omega) (by omega)) Tryd.func81 (by kernel_rfl) rfl rfl rfl (⟨⟨_, rfl, rfl, rfl⟩, trivial⟩) (⟨⟨_, _, rfl, rfl, rfl, rfl, (fun h => by cases h), rfl⟩, ⟨_, _, rfl, rfl, rfl, rfl, id, rfl⟩, trivial⟩) (⟨⟨501, _, rfl, rfl, rfl, rfl, .inr ⟨rfl, _, rfl, rfl⟩⟩, trivial⟩) (⟨(fun h => by cases h), (fun _ => ⟨1008, _, rfl, rfl⟩), trivial⟩) rfl) trivial rfl ?_
  refine .q (op_assign rfl) trivial rfl ?_
  refine .nil ?_
  show Ev _ _ _ _ _
  refine .seq ?_
  refine .seq ?_
  refine .region ?_
  refine .q (op_move rfl) trivial rfl ?_
  refine .q (op_nilCheck rfl) trivial rfl ?_
  refine .q (op_fieldAddr (m := 33) Tryd.underlying64 rfl (by kernel_rfl) rfl) trivial rfl ?_
  refine .as (.ptr 500 0) rfl ?_
  refine .q (op_fieldAddr (m := 0) Tryd.underlying62 rfl (by kernel_rfl) rfl) trivial rfl ?_
  refine .as (.ptr 500 0) rfl ?_
  refine .q (op_load Tryd.underlying4 rfl rfl rfl rfl (dC_lt (by decide))) trivial rfl ?_
  refine .nil ?_
  show Ev _ _ _ _ _
  refine .cond_false rfl (rfl) ?_
  refine .skip ?_
  show Ev _ _ _ _ _
  refine .seq ?_
  refine .region ?_
  refine .q (op_move rfl) trivial rfl ?_
  refine .q (op_nilCheck rfl) trivial rfl ?_
  refine .q (op_fieldAddr (m := 33) Tryd.underlying64 rfl (by kernel_rfl) rfl) trivial rfl ?_
  refine .as (.ptr 500 0) rfl ?_
  refine .q (op_fieldAddr (m := 0) Tryd.underlying62 rfl (by kernel_rfl) rfl) trivial rfl ?_
  refine .as (.ptr 500 33) rfl ?_
  refine .q (op_load Tryd.underlying44 rfl rfl rfl rfl (dC_lt (by decide))) trivial rfl ?_
  refine .q (op_bin64 rfl rfl rfl) trivial rfl ?_
  refine .q (op_nilCheck rfl) trivial rfl ?_
  refine .q (op_fieldAddr (m := 33) Tryd.underlying64 rfl (by kernel_rfl) rfl) trivial rfl ?_
  refine .as (.ptr 500 0) rfl ?_
  refine .q (op_fieldAddr (m := 0) Tryd.underlying62 rfl (by kernel_rfl) rfl) trivial rfl ?_
  refine .as (.ptr 500 33) rfl ?_
  refine .w (op_store (c' := dC false key (n + 1) []) rfl rfl rfl rfl rfl rfl (dC_lt (by decide))) trivial rfl ?_
  refine .nil ?_
  show Ev _ _ _ _ _
  refine .seq ?_
  refine .region ?_
  refine .q (op_move rfl) trivial rfl ?_
  refine .q (op_move rfl) trivial rfl ?_
  refine .q (op_addS rfl rfl (by rw [length_headP]; skip; omega)) trivial rfl ?_
  refine .as (.str (packP false key n p)) rfl ?_
  refine .q (op_assign rfl) trivial rfl ?_
  refine .q (op_assign rfl) trivial rfl ?_
  refine .asR (.err 192 (0) (offE eo (0))) (nil_err _ _) ?_
  refine .nil ?_
  show Ev _ _ _ _ _
  refine .ret ?_
  show RetOk _ _ _ _ _ _ _
  exact ret2v rfl (.inl rfl) rfl rfl rfl rfl ⟨rfl, trivial⟩
end Go.Proofs.YtgblhjmnenmlkaaDoor
