/-
  Texts of this claim.
-/
import Derived.Shelf.Strings.Repeat
import Derived.Test.YtdmlpblaelfdmaaGreatDoorGES
import Derived.Test.YtdmlpblaelfdmaaGreatDoorGDS
import Derived.Test.YtdmlpblaelfdmaaGreatDoorGYS
import Derived.Test.YtdmlpblaelfdmaaGreatDoorGPCS
namespace Go.Proofs.YtdmlpblaelfdmaaGreatDoor
open Go.Shelf Go.RowKit Go.Lib
def lays105_ren : Go.Shelf.Ren := ⟨fun | 105 => 63 | 212 => 99 | 99 => 100 | 165 => 101 | 166 => 98 | 170 => 102 | 169 => 65 | 263 => 135 | 264 => 136 | 206 => 137 | 240 => 134 | 241 => 138 | 276 => 172 | 277 => 173 | n => n, fun | 9 => 9 | 3 => 3 | 4 => 4 | 20 => 20 | 0 => 0 | 46 => 163 | 109 => 164 | 5 => 5 | 72 => 80 | 76 => 161 | 51 => 85 | 146 => 212 | 53 => 25 | 148 => 208 | 70 => 78 | 37 => 33 | 75 => 36 | 127 => 168 | 164 => 135 | 80 => 86 | n => n, fun | n => n⟩
theorem lays105 : Go.Proofs.Lays.n105 Tryz.prog lays105_ren := {
  mixed := by kernel_rfl
  f99 := Tryz.func100.trans (congrArg some (by kernel_rfl))
  f105 := Tryz.func63.trans (congrArg some (by kernel_rfl))
  f165 := Tryz.func101.trans (congrArg some (by kernel_rfl))
  f166 := Tryz.func98.trans (congrArg some (by kernel_rfl))
  f169 := Tryz.func65.trans (congrArg some (by kernel_rfl))
  f170 := Tryz.func102.trans (congrArg some (by kernel_rfl))
  f206 := Tryz.func137.trans (congrArg some (by kernel_rfl))
  f212 := Tryz.func99.trans (congrArg some (by kernel_rfl))
  f240 := Tryz.func134.trans (congrArg some (by kernel_rfl))
  f241 := Tryz.func138.trans (congrArg some (by kernel_rfl))
  f263 := Tryz.func135.trans (congrArg some (by kernel_rfl))
  f264 := Tryz.func136.trans (congrArg some (by kernel_rfl))
  f276 := Tryz.func172.trans (congrArg some (by kernel_rfl))
  f277 := Tryz.func173.trans (congrArg some (by kernel_rfl))
  t0 := Tryz.underlying0
  a0 := Tryz.isAgg0
  z0 := Tryz.sizeOf0
  v0 := Tryz.zeroValue0
  t3 := Tryz.underlying3
  a3 := Tryz.isAgg3
  z3 := Tryz.sizeOf3
  v3 := Tryz.zeroValue3
  t4 := Tryz.underlying4
  a4 := Tryz.isAgg4
  z4 := Tryz.sizeOf4
  v4 := Tryz.zeroValue4
  t5 := Tryz.underlying5
  a5 := Tryz.isAgg5
  z5 := Tryz.sizeOf5
  v5 := Tryz.zeroValue5
  t9 := Tryz.underlying9
  a9 := Tryz.isAgg9
  z9 := Tryz.sizeOf9
  v9 := Tryz.zeroValue9
  t20 := Tryz.underlying20
  a20 := Tryz.isAgg20
  z20 := Tryz.sizeOf20
  v20 := Tryz.zeroValue20
  t37 := Tryz.underlying33
  a37 := Tryz.isAgg33
  z37 := Tryz.sizeOf33
  v37 := Tryz.zeroValue33
  t46 := Tryz.underlying163
  a46 := Tryz.isAgg163
  z46 := Tryz.sizeOf163
  v46 := Tryz.zeroValue163
  t51 := Tryz.underlying85
  a51 := Tryz.isAgg85
  z51 := Tryz.sizeOf85
  v51 := Tryz.zeroValue85
  t53 := Tryz.underlying25
  a53 := Tryz.isAgg25
  z53 := Tryz.sizeOf25
  v53 := Tryz.zeroValue25
  t70 := Tryz.underlying78
  a70 := Tryz.isAgg78
  z70 := Tryz.sizeOf78
  v70 := Tryz.zeroValue78
  t72 := Tryz.underlying80
  a72 := Tryz.isAgg80
  z72 := Tryz.sizeOf80
  v72 := Tryz.zeroValue80
  t75 := Tryz.underlying36
  a75 := Tryz.isAgg36
  z75 := Tryz.sizeOf36
  v75 := Tryz.zeroValue36
  t76 := Tryz.underlying161
  a76 := Tryz.isAgg161
  z76 := Tryz.sizeOf161
  v76 := Tryz.zeroValue161
  t109 := Tryz.underlying164
  a109 := Tryz.isAgg164
  z109 := Tryz.sizeOf164
  v109 := Tryz.zeroValue164
  t127 := Tryz.underlying168
  a127 := Tryz.isAgg168
  z127 := Tryz.sizeOf168
  v127 := Tryz.zeroValue168
  t146 := Tryz.underlying212
  a146 := Tryz.isAgg212
  z146 := Tryz.sizeOf212
  v146 := Tryz.zeroValue212
  t148 := Tryz.underlying208
  a148 := Tryz.isAgg208
  z148 := Tryz.sizeOf208
  v148 := Tryz.zeroValue208
  t164 := Tryz.underlying135
  a164 := Tryz.isAgg135
  z164 := Tryz.sizeOf135
  v164 := Tryz.zeroValue135 }
theorem builder_Extra_105 : Builder.Extra Tryz.prog lays105_ren := {
  sizeBuilder := by kernel_rfl
  liesBuilder := by kernel_rfl
  t5 := Tryz.underlying5
  a5 := Tryz.isAgg5
  z5 := Tryz.sizeOf5
  v5 := Tryz.zeroValue5
  infoByte := by kernel_rfl
  cellsByte := by kernel_rfl
  sizeByte := by kernel_rfl
  neB5 := by decide }
theorem strings_Repeat (s : ByteArray) (c : Nat) (w : World) (hc : c ≤ 9223372036854775807) (hlen : s.size * c ≤ 140737488355328) :
    Calls Tryz.prog 63 #[.string s, .int .i64 c] w fun e w' => e = .returned (.string ⟨(Lib.repeatL s.data.toList c).toArray⟩) ∧ Below w.heap.size w w' := Any.strings_Repeat lays105 builder_Extra_105 s c w hc hlen
theorem repeat_z (n : Nat) : Lib.repeatL [0] n = zP n := by
  have := Lib.repeatL_replicate (0 : UInt8) 1 n
  rw [Nat.mul_one] at this; exact this
theorem repeat_ev (n : Nat) (hn : n ≤ 1000000) : Meets Tryz.prog 63 [.str [0], .i64 ((n : Nat) : Int)] [] (.str (zP n)) [] :=
  meets_of_walk fun E S vals w hg hl hr hR => by
    obtain ⟨x, y, rfl, hx, hy⟩ := args2 hl hr
    rw [hx.str_inv, hy.i64_inv]
    refine (strings_Repeat ⟨#[0]⟩ n w (by omega) (by show 1 * n ≤ _; omega)).mono fun e w' hh => ⟨_, hh.1, ?_, hh.2⟩
    rw [show (⟨#[0]⟩ : ByteArray).data.toList = [0] from rfl, repeat_z]
    exact .str _
end Go.Proofs.YtdmlpblaelfdmaaGreatDoor
namespace Go.Proofs.YtdmlpblaelfdmaaGreatDoor
open Go.RowKit
set_option maxRecDepth 100000 in
theorem rnumB_ev (x : UInt64) (n : Nat) (hn : n ≤ 1000000) : Meets Tryz.prog 41 [.u64 x, .i64 (n : Int)] [] (.str (tlB x n)) [] := by
 refine meets_of_ev (nt := 23) Tryz.func41 rfl rfl (Nat.le_of_ble_eq_true rfl) ?_
 refine .seq ?_
 refine .region ?_
 refine .q (op_assign rfl) trivial rfl ?_
 refine .nil ?_
 show Ev _ _ _ _ _
 refine .seq ?_
 refine .region ?_
 refine .a (ap_build0 (z := 1) (c := .aggB []) Tryz.underlying33 inf5 rfl) trivial rfl ?_
 refine .q (op_assign rfl) trivial rfl ?_
 refine .nil ?_
 show Ev _ _ _ _ _
 refine .seq ?_
 refine .seq ?_
 refine .region ?_
 refine .q (op_assign rfl) trivial rfl ?_
 refine .nil ?_
 show Ev _ _ _ _ _
 refine .block ?_
 refine Ev.loop (ι := { k : Nat // k ≤ n }) (fun q => ⟨[(0, .u64 (dvB x q.1)), (1, .i64 (n : Int)), (5, .sl 1000 0 q.1 1), (6, .i64 ((q.1 : Nat) : Int))], [(1000, some ⟨.aggB (tlB x q.1), 5, true⟩)], 1008⟩) (fun q => n - q.1) ⟨0, Nat.zero_le _⟩ (StLe.mk [(1000, 1000)] rfl rfl ⟨⟨_, rfl, by first | rfl | (simp only [AV.ren]; congr 1; omega), rfl⟩, ⟨_, rfl, by first | rfl | (simp only [AV.ren]; congr 1; omega), rfl⟩, ⟨_, rfl, by first | rfl | (simp only [AV.ren]; congr 1; omega), rfl⟩, ⟨_, rfl, by first | rfl | (simp only [AV.ren]; congr 1; omega), rfl⟩, trivial⟩ ⟨⟨_, _, rfl, rfl, rfl, rfl, id, rfl⟩, trivial⟩) ?_
 rintro ⟨k, hk⟩
 try dsimp only
 have hl := length_tlB x k
 refine .seq ?_
 refine .seq ?_
 refine .region ?_
 refine .q (op_move rfl) trivial rfl ?_
 refine .q (op_move rfl) trivial rfl ?_
 refine .q (op_cmpI rfl rfl rfl) trivial rfl ?_
 refine .nil ?_
 show Ev _ _ _ _ _
 refine .cond rfl (fun hc10 => ?_) (fun hc10 => ?_)
 ·simp only [decide_eq_true_eq] at hc10
  refine .skip ?_
  show Ev _ _ _ _ _
  refine .seq ?_
  refine .block ?_
  refine .seq ?_
  refine .region ?_
  refine .q (op_move rfl) trivial rfl ?_
  refine .q (op_rem64 rfl rfl (by decide)) trivial rfl ?_
  refine .q (op_conv Tryz.underlying25 Tryz.underlying5 rfl rfl) trivial rfl ?_
  refine .a (ap_build (us := [_]) (c := .aggB [_]) Tryz.underlying33 inf5 rfl (by decide) (by decide) ⟨rfl, rfl, rfl, trivial⟩ rfl) trivial rfl ?_
  refine .q (op_move rfl) trivial rfl ?_
  refine .a (ap_cat Tryz.underlying33 inf5 rfl rfl rfl rfl (by first | rfl | omega | (simp only [AV.len, List.length_cons, List.length_nil, length_tlB]; done) | (simp only [AV.len, List.length_cons, List.length_nil, length_tlB]; omega)) rfl rfl (by first | rfl | omega | (simp only [AV.len, length_tlB]; done) | (simp only [AV.len, List.length_cons, List.length_nil, length_tlB]; omega)) rfl (by first | rfl | omega | (simp only [AV.len, List.length_cons, List.length_nil, length_tlB]; done) | (simp only [AV.len, List.length_cons, List.length_nil, length_tlB]; omega))) trivial rfl ?_
  refine .q (op_assign rfl) trivial rfl ?_
  refine .nil ?_
  show Ev _ _ _ _ _
  refine .region ?_
  refine .q (op_move rfl) trivial rfl ?_
  refine .q (op_quo64 rfl rfl (by decide)) trivial rfl ?_
  refine .q (op_assign rfl) trivial rfl ?_
  refine .nil ?_
  show Ev _ _ _ _ _
  refine .region ?_
  refine .q (op_move rfl) trivial rfl ?_
  refine .q (op_addI rfl rfl ⟨by omega, by omega⟩) trivial rfl ?_
  refine .q (op_assign rfl) trivial rfl ?_
  refine .nil ?_
  exact ⟨⟨k + 1, by omega⟩, by (try dsimp only); omega, StLe.mk [(1000, 1016)] rfl rfl ⟨⟨_, rfl, by rfl, rfl⟩, ⟨_, rfl, by rfl, rfl⟩, ⟨_, rfl, by (exact congrArg (fun z => AV.sl 1000 0 z 1) (by simp only [List.length_cons, List.length_nil, length_tlB]; omega)), rfl⟩, ⟨_, rfl, by rfl, rfl⟩, trivial⟩ ⟨⟨_, _, rfl, rfl, rfl, rfl, id, rfl⟩, trivial⟩⟩
 ·simp only [decide_eq_false_iff_not] at hc10
  refine .exit ?_
  show Ev _ _ _ _ _
  refine .seq ?_
  refine .region ?_
  refine .q (op_move rfl) trivial rfl ?_
  refine .q (op_bytes_str Tryz.underlying33 Tryz.underlying5 Tryz.underlying9 rfl rfl rfl (by rw [length_tlB]; omega)) trivial rfl ?_
  refine .q (op_assign rfl) trivial rfl ?_
  refine .nil ?_
  show Ev _ _ _ _ _
  refine .ret ?_
  show RetOk _ _ _ _ _ _ _
  have e : k = n := by omega
  subst e
  exact ret1v rfl (.inl rfl) rfl (by rw [List.drop_zero, List.take_of_length_le (by rw [length_tlB]; omega)]) trivial
theorem zeroW : (Tryz.prog.info? 29).map (·.zero) = some (some (.agg #[.bool false, .int .u8 0, .int .u8 0, .int .u8 0, .int .u8 0, .int .u8 0, .int .u8 0, .int .u8 0, .int .u8 0, .int .u8 0, .int .u8 0, .int .u8 0, .int .u8 0, .int .u8 0, .int .u8 0, .int .u8 0, .int .u8 0, .int .u8 0, .int .u8 0, .int .u8 0, .int .u8 0, .int .u8 0, .int .u8 0, .int .u8 0, .int .u8 0, .int .u8 0, .int .u8 0, .int .u8 0, .int .u8 0, .int .u8 0, .int .u8 0, .int .u8 0, .int .u8 0, .int .u64 0])) := by kernel_rfl
theorem rel_zeroW : Rel (fun _ => none) (dC false (List.replicate 32 (0 : UInt8)) 0 []) (.agg #[.bool false, .int .u8 0, .int .u8 0, .int .u8 0, .int .u8 0, .int .u8 0, .int .u8 0, .int .u8 0, .int .u8 0, .int .u8 0, .int .u8 0, .int .u8 0, .int .u8 0, .int .u8 0, .int .u8 0, .int .u8 0, .int .u8 0, .int .u8 0, .int .u8 0, .int .u8 0, .int .u8 0, .int .u8 0, .int .u8 0, .int .u8 0, .int .u8 0, .int .u8 0, .int .u8 0, .int .u8 0, .int .u8 0, .int .u8 0, .int .u8 0, .int .u8 0, .int .u8 0, .int .u64 0]) := rel_agg rfl ⟨.bool _, .u8 _, .u8 _, .u8 _, .u8 _, .u8 _, .u8 _, .u8 _, .u8 _, .u8 _, .u8 _, .u8 _, .u8 _, .u8 _, .u8 _, .u8 _, .u8 _, .u8 _, .u8 _, .u8 _, .u8 _, .u8 _, .u8 _, .u8 _, .u8 _, .u8 _, .u8 _, .u8 _, .u8 _, .u8 _, .u8 _, .u8 _, .u8 _, .u64 _, trivial⟩
theorem zeroR : (Tryz.prog.info? 44).map (·.zero) = some (some (.agg #[.bool false, .int .u8 0, .int .u8 0, .int .u8 0, .int .u8 0, .int .u8 0, .int .u8 0, .int .u8 0, .int .u8 0, .int .u8 0, .int .u8 0, .int .u8 0, .int .u8 0, .int .u8 0, .int .u8 0, .int .u8 0, .int .u8 0, .int .u8 0, .int .u8 0, .int .u8 0, .int .u8 0, .int .u8 0, .int .u8 0, .int .u8 0, .int .u8 0, .int .u8 0, .int .u8 0, .int .u8 0, .int .u8 0, .int .u8 0, .int .u8 0, .int .u8 0, .int .u8 0, .int .u64 0, .slice none 0 0, .nilIface])) := by kernel_rfl
theorem rel_zeroR (eo : Nat → Nat × Nat) : Rel (fun _ => none) (dC false (List.replicate 32 (0 : UInt8)) 0 [.nilsl, .err 269 (0) (offE eo (0))]) (.agg #[.bool false, .int .u8 0, .int .u8 0, .int .u8 0, .int .u8 0, .int .u8 0, .int .u8 0, .int .u8 0, .int .u8 0, .int .u8 0, .int .u8 0, .int .u8 0, .int .u8 0, .int .u8 0, .int .u8 0, .int .u8 0, .int .u8 0, .int .u8 0, .int .u8 0, .int .u8 0, .int .u8 0, .int .u8 0, .int .u8 0, .int .u8 0, .int .u8 0, .int .u8 0, .int .u8 0, .int .u8 0, .int .u8 0, .int .u8 0, .int .u8 0, .int .u8 0, .int .u8 0, .int .u64 0, .slice none 0 0, .nilIface]) := rel_agg rfl ⟨.bool _, .u8 _, .u8 _, .u8 _, .u8 _, .u8 _, .u8 _, .u8 _, .u8 _, .u8 _, .u8 _, .u8 _, .u8 _, .u8 _, .u8 _, .u8 _, .u8 _, .u8 _, .u8 _, .u8 _, .u8 _, .u8 _, .u8 _, .u8 _, .u8 _, .u8 _, .u8 _, .u8 _, .u8 _, .u8 _, .u8 _, .u8 _, .u8 _, .u64 _, .nilsl, .err0 _ _, trivial⟩
set_option maxRecDepth 100000 in
theorem padded_ev (b : Bool) (key : List UInt8) (n : UInt64) (tl : List AV) (te : Nat) : Meets Tryz.prog 60 [.ptr 500 0] [(500, some ⟨dC b key n (tl), te, false⟩)] (.i64 ((aheadP b : Nat) : Int)) [] := by
 refine meets_of_ev (nt := 7) Tryz.func60 rfl rfl (Nat.le_of_ble_eq_true rfl) ?_
 refine .seq ?_
 refine .region ?_
 refine .q (op_assign rfl) trivial rfl ?_
 refine .nil ?_
 show Ev _ _ _ _ _
 refine .seq ?_
 refine .seq ?_
 refine .region ?_
 refine .q (op_move rfl) trivial rfl ?_
 refine .q (op_nilCheck rfl) trivial rfl ?_
 refine .q (op_fieldAddr (m := 0) Tryz.underlying27 rfl (by kernel_rfl) rfl) trivial rfl ?_
 refine .as (.ptr 500 0) rfl ?_
 refine .q (op_load Tryz.underlying4 rfl rfl rfl rfl (dC_lt (by decide))) trivial rfl ?_
 refine .nil ?_
 show Ev _ _ _ _ _
 refine .cond rfl (fun hc6 => ?_) (fun hc6 => ?_)
 ·skip
  refine .seq ?_
  refine .region ?_
  refine .q (op_assign rfl) trivial rfl ?_
  refine .nil ?_
  show Ev _ _ _ _ _
  refine .ret ?_
  show RetOk _ _ _ _ _ _ _
  exact ret1v rfl (.inl rfl) rfl (by first | rw [hc6]; rfl) trivial
 ·skip
  refine .skip ?_
  show Ev _ _ _ _ _
  refine .seq ?_
  refine .region ?_
  refine .q (op_assign rfl) trivial rfl ?_
  refine .nil ?_
  show Ev _ _ _ _ _
  refine .ret ?_
  show RetOk _ _ _ _ _ _ _
  exact ret1v rfl (.inl rfl) rfl (by first | rw [hc6]; rfl) trivial
set_option maxRecDepth 100000 in
theorem count_ev (b : Bool) (key : List UInt8) (n : UInt64) (tl : List AV) (te : Nat) : Meets Tryz.prog 17 [.ptr 500 0] [(500, some ⟨dC b key n (tl), te, false⟩)] (.u64 n) [] := by
 refine meets_of_ev (nt := 7) Tryz.func17 rfl rfl (Nat.le_of_ble_eq_true rfl) ?_
 refine .seq ?_
 refine .region ?_
 refine .q (op_assign rfl) trivial rfl ?_
 refine .nil ?_
 show Ev _ _ _ _ _
 refine .seq ?_
 refine .region ?_
 refine .q (op_move rfl) trivial rfl ?_
 refine .q (op_nilCheck rfl) trivial rfl ?_
 refine .q (op_fieldAddr (m := 0) Tryz.underlying27 rfl (by kernel_rfl) rfl) trivial rfl ?_
 refine .as (.ptr 500 33) rfl ?_
 refine .q (op_load Tryz.underlying25 rfl rfl rfl rfl (dC_lt (by decide))) trivial rfl ?_
 refine .q (op_assign rfl) trivial rfl ?_
 refine .nil ?_
 show Ev _ _ _ _ _
 refine .ret ?_
 show RetOk _ _ _ _ _ _ _
 exact ret1v rfl (.inl rfl) rfl (rfl) trivial
set_option maxRecDepth 100000 in
theorem nonce_ev (b : Bool) (key : List UInt8) (n : UInt64) (tl : List AV) (te : Nat) : Meets Tryz.prog 39 [.ptr 500 0] [(500, some ⟨dC b key n (tl), te, false⟩)] (.aggB (nonceP n)) [] := by
 refine meets_of_ev (nt := 15) Tryz.func39 rfl rfl (Nat.le_of_ble_eq_true rfl) ?_
 refine .seq ?_
 refine .region ?_
 refine .a (op_allocRow zero88 rel_zero88 rfl) trivial rfl ?_
 refine .nil ?_
 show Ev _ _ _ _ _
 refine .seq ?_
 refine .region ?_
 refine .a (op_allocRow zero82 rel_zero82 rfl) trivial rfl ?_
 refine .nil ?_
 show Ev _ _ _ _ _
 refine .seq ?_
 refine .region ?_
 refine .a (op_allocRow zero88 rel_zero88 rfl) trivial rfl ?_
 refine .nil ?_
 show Ev _ _ _ _ _
 refine .seq ?_
 refine .drawnF [[], [], [], [2], [2, 3], [2, 3, 4], [1, 2, 3, 4, 5], [1, 2, 3, 4, 5, 6], [0, 1, 2, 3, 4, 5, 6, 7]] [0, 1, 5, 6, 7, 8] [] [(0, ([1016], [])), (1, ([], [1008])), (5, ([500], [])), (6, ([], [1008, 1032])), (7, ([], [1008, 1072])), (8, ([], [1016]))] (by kernel_rfl) (by kernel_rfl) rfl ?_
 show DK _ [0, 1, 2, 3, 4, 5, 6, 7, 8] _ _ _
 refine .q rfl (ap_slice_arr_hi Tryz.underlying88 inf5.sz rfl rfl (by first | omega | (simp only [AV.len]; omega) | (simp only [AV.len]; omega) | assumption | (simp [AV.len]; done)) (by decide) rfl (by first | omega | (simp only [AV.len]; omega) | (simp only [AV.len, List.length_set]; omega) | assumption | (simp [AV.len]; done))) trivial ?_
 refine .a rfl (op_call (U := [(1008, some ⟨.agg [.ptr 1008 0, .sl 1032 0 (4) 1], 82, true⟩), (1032, some ⟨.aggB (numB (UInt32.toUInt64 0) 4 4), 5, true⟩)]) [(500, 1008)] [(1032, 1000)] (u320_ev 0) Tryz.func36 (by kernel_rfl) rfl rfl rfl (⟨⟨_, rfl, rfl, rfl⟩, ⟨_, rfl, rfl, rfl⟩, trivial⟩) (⟨⟨_, _, rfl, rfl, rfl, rfl, id, rfl⟩, trivial⟩) (⟨⟨500, _, rfl, rfl, rfl, rfl, .inr ⟨rfl, _, rfl, rfl⟩⟩, ⟨1000, _, rfl, rfl, rfl, rfl, .inl rfl⟩, trivial⟩) (⟨(fun _ => ⟨1008, _, rfl, rfl⟩), trivial⟩) rfl) trivial rfl rfl ?_
 refine .q rfl (op_move rfl) trivial ?_
 refine .q rfl (op_nilCheck rfl) trivial ?_
 refine .q rfl (op_fieldAddr (m := 0) Tryz.underlying27 rfl (by kernel_rfl) rfl) trivial ?_
 refine .as (.ptr 500 33) rfl ?_
 refine .q rfl (op_load Tryz.underlying25 rfl rfl rfl rfl (dC_lt (by decide))) trivial ?_
 refine .a rfl (op_call (U := [(1008, some ⟨.agg [.ptr 1008 0, .sl 1072 0 (4 + 8) 1], 82, true⟩), (1072, some ⟨.aggB (numB (UInt32.toUInt64 0) 4 4 ++ numB n 8 8), 5, true⟩), (1032, none)]) [(500, 1008), (501, 1032)] [(1072, 1000)] (u642_ev n (numB (UInt32.toUInt64 0) 4 4) 4 (by first | (simp [length_numB]; done) | (simp [length_numB, length_zP, length_headP]; omega) | omega) (by omega)) Tryz.func68 (by kernel_rfl) rfl rfl rfl (⟨⟨_, rfl, rfl, rfl⟩, ⟨_, rfl, rfl, rfl⟩, trivial⟩) (⟨⟨_, _, rfl, rfl, rfl, rfl, id, rfl⟩, ⟨_, _, rfl, rfl, rfl, rfl, id, rfl⟩, trivial⟩) (⟨⟨500, _, rfl, rfl, rfl, rfl, .inr ⟨rfl, _, rfl, rfl⟩⟩, ⟨1000, _, rfl, rfl, rfl, rfl, .inl rfl⟩, trivial⟩) (⟨(fun _ => ⟨1008, _, rfl, rfl⟩), (fun _ => ⟨1032, _, rfl, rfl⟩), trivial⟩) rfl) trivial rfl rfl ?_
 refine .a rfl (op_call (U := [(1072, some ⟨.aggB (numB (UInt32.toUInt64 0) 4 4 ++ numB n 8 8), (frz + 5), false⟩)]) [(500, 1008), (501, 1072)] [] (bytes2_ev (numB (UInt32.toUInt64 0) 4 4 ++ numB n 8 8) (4 + 8) (by first | (simp [length_numB]; done) | (simp [length_numB, length_zP, length_headP]; omega) | omega) (by omega) (by omega)) Tryz.func37 (by kernel_rfl) rfl rfl rfl (⟨⟨_, rfl, rfl, rfl⟩, trivial⟩) (⟨⟨_, _, rfl, rfl, rfl, rfl, (fun h => by cases h), rfl⟩, ⟨_, _, rfl, rfl, rfl, rfl, id, rfl⟩, trivial⟩) (⟨⟨501, _, rfl, rfl, rfl, rfl, .inr ⟨rfl, _, rfl, rfl⟩⟩, trivial⟩) (⟨(fun h => by cases h), (fun _ => ⟨1072, _, rfl, rfl⟩), trivial⟩) rfl) trivial rfl rfl ?_
 refine .a rfl (op_copy (q := 12) (c' := .aggB (nonceP n)) Tryz.underlying33 inf5.sz rfl rfl rfl (srcs_str rfl) (by show 0 + 12 ≤ 12; decide) (by simp [length_numB]) (by simp [AV.list, AV.parts, nonceP]; exact (List.take_of_length_le (by simp [length_numB])).symm)) trivial rfl rfl ?_
 refine .nil ?_
 show Ev _ _ _ _ _
 refine .seq ?_
 refine .region ?_
 refine .q (op_loadRow Tryz.underlying88 rfl sz88 rfl rfl rfl (by exact length_nonceP n)) trivial rfl ?_
 refine .w (op_storeRow sz88 rfl rfl rfl rfl rfl (by exact length_nonceP n) (by exact length_nonceP n)) trivial rfl ?_
 refine .nil ?_
 show Ev _ _ _ _ _
 refine .ret ?_
 show RetOk _ _ _ _ _ _ _
 exact retc1 rfl (.inl rfl) ⟨_, _, _, _, rfl, rfl, rfl, rfl, (length_nonceP n), Tryz.underlying88, rfl, sz88⟩ trivial
set_option maxRecDepth 100000 in
theorem dseal_ev (b : Bool) (key key2 : List UInt8) (hk2 : key2.length = 32) (n : UInt64) (tl : List AV) (te : Nat) : Meets Tryz.prog 34 [.ptr 500 0, .aggB key2] [(500, some ⟨dC b key n (tl), te, true⟩)] (.tup []) [(500, some ⟨dC true key2 n (tl), te, true⟩)] := by
 refine meets_of_ev (nt := 11) Tryz.func34 rfl rfl (Nat.le_of_ble_eq_true rfl) ?_
 refine .seq ?_
 refine .region ?_
 refine .a (op_boxRow rfl rfl) trivial rfl ?_
 refine .nil ?_
 show Ev _ _ _ _ _
 refine .seq ?_
 refine .region ?_
 refine .q (op_move rfl) trivial rfl ?_
 refine .q (op_nilCheck rfl) trivial rfl ?_
 refine .q (op_fieldAddr (m := 0) Tryz.underlying27 rfl (by kernel_rfl) rfl) trivial rfl ?_
 refine .as (.ptr 500 0) rfl ?_
 refine .w (op_store (c' := dC true key n tl) rfl rfl rfl rfl rfl rfl (dC_lt (by decide))) trivial rfl ?_
 refine .nil ?_
 show Ev _ _ _ _ _
 refine .region ?_
 refine .q (op_move rfl) trivial rfl ?_
 refine .q (op_loadRow Tryz.underlying24 rfl sz24 rfl rfl rfl (hk2)) trivial rfl ?_
 refine .q (op_nilCheck rfl) trivial rfl ?_
 refine .q (op_fieldAddr (m := 31) Tryz.underlying27 rfl (by kernel_rfl) rfl) trivial rfl ?_
 refine .as (.ptr 500 1) rfl ?_
 refine .w (op_storePart (m := 32) (cs := key2.map .u8) (c' := dC true key2 n tl) (by kernel_rfl) rfl rfl rfl rfl rfl (dC_keyL hk2) (by rw [dC_len]; omega) (dC_part hk2)) trivial rfl ?_
 refine .nil ?_
 show RetOk _ _ _ _ _ _ _
 exact ret0 rfl (.inr rfl) ⟨rfl, trivial⟩
set_option maxRecDepth 100000 in
theorem wseal_ev (b : Bool) (key key2 : List UInt8) (hk2 : key2.length = 32) (n : UInt64) : Meets Tryz.prog 12 [.ptr 500 0, .aggB key2] [(500, some ⟨dC b key n ([]), 29, true⟩)] (.tup []) [(500, some ⟨dC true key2 n ([]), 29, true⟩)] := by
 refine meets_of_ev (nt := 9) Tryz.func12 rfl rfl (Nat.le_of_ble_eq_true rfl) ?_
 refine .seq ?_
 refine .region ?_
 refine .a (op_boxRow rfl rfl) trivial rfl ?_
 refine .nil ?_
 show Ev _ _ _ _ _
 refine .drawnF [[], [0], [0, 1], [], [0, 1, 2, 3]] [3, 4] [] [(3, ([1000], [])), (4, ([], [500]))] (by kernel_rfl) (by kernel_rfl) rfl ?_
 show DK _ [0, 1, 2, 3, 4] _ _ _
 refine .q rfl (op_move rfl) trivial ?_
 refine .q rfl (op_nilCheck rfl) trivial ?_
 refine .q rfl (op_fieldAddr (m := 33) Tryz.underlying29 rfl (by kernel_rfl) rfl) trivial ?_
 refine .as (.ptr 500 0) rfl ?_
 refine .q rfl (op_loadRow Tryz.underlying24 rfl sz24 rfl rfl rfl (hk2)) trivial ?_
 refine .a rfl (op_call (U := [(500, some ⟨dC true key2 n [], 29, true⟩)]) [(500, 500)] [] (dseal_ev b key key2 hk2 n [] 29) Tryz.func34 (by kernel_rfl) rfl rfl rfl (⟨⟨_, rfl, rfl, rfl⟩, ⟨_, rfl, rfl, rfl⟩, trivial⟩) (⟨⟨_, _, rfl, rfl, rfl, rfl, id, rfl⟩, trivial⟩) (⟨⟨500, _, rfl, rfl, rfl, rfl, .inr ⟨rfl, _, rfl, rfl⟩⟩, trivial⟩) (⟨(fun _ => ⟨500, _, rfl, rfl⟩), trivial⟩) rfl) trivial rfl rfl ?_
 refine .nil ?_
 show RetOk _ _ _ _ _ _ _
 exact ret0 rfl (.inr rfl) ⟨rfl, trivial⟩
set_option maxRecDepth 100000 in
theorem ropen_ev12 (b : Bool) (key key2 : List UInt8) (hk2 : key2.length = 32) (n : UInt64) (eo : Nat → Nat × Nat) : Meets Tryz.prog 18 [.ptr 500 0, .aggB key2] [(500, some ⟨dC b key n ([.nilsl, .err 269 (0) (offE eo (0))]), 44, true⟩)] (.tup []) [(500, some ⟨dC true key2 n ([.nilsl, .err 269 (0) (offE eo (0))]), 44, true⟩)] := by
 refine meets_of_ev (nt := 9) Tryz.func18 rfl rfl (Nat.le_of_ble_eq_true rfl) ?_
 refine .seq ?_
 refine .region ?_
 refine .a (op_boxRow rfl rfl) trivial rfl ?_
 refine .nil ?_
 show Ev _ _ _ _ _
 refine .drawnF [[], [0], [0, 1], [], [0, 1, 2, 3]] [3, 4] [] [(3, ([1000], [])), (4, ([], [500]))] (by kernel_rfl) (by kernel_rfl) rfl ?_
 show DK _ [0, 1, 2, 3, 4] _ _ _
 refine .q rfl (op_move rfl) trivial ?_
 refine .q rfl (op_nilCheck rfl) trivial ?_
 refine .q rfl (op_fieldAddr (m := 33) Tryz.underlying44 rfl (by kernel_rfl) rfl) trivial ?_
 refine .as (.ptr 500 0) rfl ?_
 refine .q rfl (op_loadRow Tryz.underlying24 rfl sz24 rfl rfl rfl (hk2)) trivial ?_
 refine .a rfl (op_call (U := [(500, some ⟨dC true key2 n [.nilsl, .err 269 (0) (offE eo (0))], 44, true⟩)]) [(500, 500)] [] (dseal_ev b key key2 hk2 n [.nilsl, .err 269 (0) (offE eo (0))] 44) Tryz.func34 (by kernel_rfl) rfl rfl rfl (⟨⟨_, rfl, rfl, rfl⟩, ⟨_, rfl, rfl, rfl⟩, trivial⟩) (⟨⟨_, _, rfl, rfl, rfl, rfl, id, rfl⟩, trivial⟩) (⟨⟨500, _, rfl, rfl, rfl, rfl, .inr ⟨rfl, _, rfl, rfl⟩⟩, trivial⟩) (⟨(fun _ => ⟨500, _, rfl, rfl⟩), trivial⟩) rfl) trivial rfl rfl ?_
 refine .nil ?_
 show RetOk _ _ _ _ _ _ _
 exact ret0 rfl (.inr rfl) ⟨rfl, trivial⟩
end Go.Proofs.YtdmlpblaelfdmaaGreatDoor
namespace Go.Proofs.YtdmlpblaelfdmaaGreatDoor
open Go.RowKit
set_option maxRecDepth 100000 in
theorem body_ev (b : Bool) (key : List UInt8) (n : UInt64) (p : List UInt8) (hp : p.length ≤ 100000) : Meets Tryz.prog 35 [.ptr 500 0, .str p] [(500, some ⟨dC b key n ([]), 29, false⟩)] (.str (bodyP b p)) [] := by
 have hpad := padP_le b p.length
 have hah := ahead_le b
 have hz := length_zP (padP b p.length)
 refine meets_of_ev (nt := 31) Tryz.func35 rfl rfl (Nat.le_of_ble_eq_true rfl) ?_
 refine .seq ?_
 refine .region ?_
 refine .q (op_assign rfl) trivial rfl ?_
 refine .nil ?_
 show Ev _ _ _ _ _
 refine .seq ?_
 refine .region ?_
 refine .q (op_move rfl) trivial rfl ?_
 refine .q (op_nilCheck rfl) trivial rfl ?_
 refine .q (op_fieldAddr (m := 33) Tryz.underlying29 rfl (by kernel_rfl) rfl) trivial rfl ?_
 refine .as (.ptr 500 0) rfl ?_
 refine .q (op_call (U := []) [(500, 500)] [] (padded_ev b key n [] 29) Tryz.func60 (by kernel_rfl) rfl rfl rfl (⟨⟨_, rfl, rfl, rfl⟩, trivial⟩) (⟨⟨_, _, rfl, rfl, rfl, rfl, (fun h => by cases h), rfl⟩, trivial⟩) (trivial) (⟨(fun h => by cases h), trivial⟩) rfl) trivial rfl ?_
 refine .q (op_addI rfl rfl ⟨by omega, by omega⟩) trivial rfl ?_
 refine .q (op_move rfl) trivial rfl ?_
 refine .q (op_len_str Tryz.underlying9 rfl) trivial rfl ?_
 refine .q (op_addI rfl rfl ⟨by omega, by omega⟩) trivial rfl ?_
 refine .q (op_addI rfl rfl ⟨by omega, by omega⟩) trivial rfl ?_
 refine .as (.i64 ((aheadP b + 1 + p.length + 4 : Nat) : Int)) (congrArg AV.i64 (by omega)) ?_
 refine .q (op_assign rfl) trivial rfl ?_
 refine .nil ?_
 show Ev _ _ _ _ _
 refine .seq ?_
 refine .region ?_
 refine .q (op_move rfl) trivial rfl ?_
 refine .q (op_remI rfl rfl ⟨by omega, by omega⟩) trivial rfl ?_
 refine .q (op_subI rfl rfl ⟨by omega, by omega⟩) trivial rfl ?_
 refine .q (op_remI rfl rfl ⟨by omega, by omega⟩) trivial rfl ?_
 refine .q (op_addI rfl rfl ⟨by omega, by omega⟩) trivial rfl ?_
 refine .as (.i64 (((padP b p.length) : Nat) : Int)) (congrArg AV.i64 (by unfold padP; omega)) ?_
 refine .q (op_assign rfl) trivial rfl ?_
 refine .nil ?_
 show Ev _ _ _ _ _
 refine .seq ?_
 refine .region ?_
 refine .a (op_allocRow zero82 rel_zero82 rfl) trivial rfl ?_
 refine .nil ?_
 show Ev _ _ _ _ _
 refine .seq ?_
 refine .region ?_
 refine .q (op_move rfl) trivial rfl ?_
 refine .q (op_conv Tryz.underlying3 Tryz.underlying5 rfl rfl) trivial rfl ?_
 refine .a (op_call (U := [(1000, some ⟨.agg [.ptr 1000 0, .sl 1008 0 (1) 1], 82, true⟩), (1008, some ⟨.aggB ([(ofI8 (((padP b p.length) : Nat) : Int))]), 5, true⟩)]) [(500, 1000)] [(1008, 1000)] (byte0_ev (ofI8 (((padP b p.length) : Nat) : Int))) Tryz.func61 (by kernel_rfl) rfl rfl rfl (⟨⟨_, rfl, rfl, rfl⟩, ⟨_, rfl, rfl, rfl⟩, trivial⟩) (⟨⟨_, _, rfl, rfl, rfl, rfl, id, rfl⟩, trivial⟩) (⟨⟨500, _, rfl, rfl, rfl, rfl, .inr ⟨rfl, _, rfl, rfl⟩⟩, ⟨1000, _, rfl, rfl, rfl, rfl, .inl rfl⟩, trivial⟩) (⟨(fun _ => ⟨1000, _, rfl, rfl⟩), trivial⟩) rfl) trivial rfl ?_
 refine .q (op_move rfl) trivial rfl ?_
 refine .a (op_call (U := [(1000, some ⟨.agg [.ptr 1000 0, .sl 1016 0 (1 + p.length) 1], 82, true⟩), (1016, some ⟨.aggB (([(ofI8 (((padP b p.length) : Nat) : Int))]) ++ p), 5, true⟩), (1008, none)]) [(500, 1000), (501, 1008)] [(1016, 1000)] (raw2_ev p (by omega) (([(ofI8 (((padP b p.length) : Nat) : Int))])) (1) (by first | (simp; done) | (simp [length_numB, length_zP, length_headP]; omega) | omega) (by omega)) Tryz.func62 (by kernel_rfl) rfl rfl rfl (⟨⟨_, rfl, rfl, rfl⟩, ⟨_, rfl, rfl, rfl⟩, trivial⟩) (⟨⟨_, _, rfl, rfl, rfl, rfl, id, rfl⟩, ⟨_, _, rfl, rfl, rfl, rfl, id, rfl⟩, trivial⟩) (⟨⟨500, _, rfl, rfl, rfl, rfl, .inr ⟨rfl, _, rfl, rfl⟩⟩, ⟨1000, _, rfl, rfl, rfl, rfl, .inl rfl⟩, trivial⟩) (⟨(fun _ => ⟨1000, _, rfl, rfl⟩), (fun _ => ⟨1008, _, rfl, rfl⟩), trivial⟩) rfl) trivial rfl ?_
 refine .q (op_move rfl) trivial rfl ?_
 refine .q (op_call (U := []) [] [] (repeat_ev (padP b p.length) (by omega)) Tryz.func63 (by kernel_rfl) rfl rfl rfl (⟨⟨_, rfl, rfl, rfl⟩, ⟨_, rfl, rfl, rfl⟩, trivial⟩) (trivial) (trivial) (trivial) rfl) trivial rfl ?_
 refine .a (op_call (U := [(1000, some ⟨.agg [.ptr 1000 0, .sl 1024 0 (1 + p.length + (zP (padP b p.length)).length) 1], 82, true⟩), (1024, some ⟨.aggB ((([(ofI8 (((padP b p.length) : Nat) : Int))]) ++ p) ++ (zP (padP b p.length))), 5, true⟩), (1016, none)]) [(500, 1000), (501, 1016)] [(1024, 1000)] (raw2_ev (zP (padP b p.length)) (by rw [length_zP]; omega) ((([(ofI8 (((padP b p.length) : Nat) : Int))]) ++ p)) (1 + p.length) (by first | (simp; done) | (simp; omega) | omega) (by omega)) Tryz.func62 (by kernel_rfl) rfl rfl rfl (⟨⟨_, rfl, rfl, rfl⟩, ⟨_, rfl, rfl, rfl⟩, trivial⟩) (⟨⟨_, _, rfl, rfl, rfl, rfl, id, rfl⟩, ⟨_, _, rfl, rfl, rfl, rfl, id, rfl⟩, trivial⟩) (⟨⟨500, _, rfl, rfl, rfl, rfl, .inr ⟨rfl, _, rfl, rfl⟩⟩, ⟨1000, _, rfl, rfl, rfl, rfl, .inl rfl⟩, trivial⟩) (⟨(fun _ => ⟨1000, _, rfl, rfl⟩), (fun _ => ⟨1016, _, rfl, rfl⟩), trivial⟩) rfl) trivial rfl ?_
 refine .a (op_call (U := [(1024, some ⟨.aggB (((([(ofI8 (((padP b p.length) : Nat) : Int))]) ++ p) ++ (zP (padP b p.length)))), (frz + 5), false⟩)]) [(500, 1000), (501, 1024)] [] (bytes2_ev (((([(ofI8 (((padP b p.length) : Nat) : Int))]) ++ p) ++ (zP (padP b p.length)))) (1 + p.length + (zP (padP b p.length)).length) (by first | (simp [length_zP]; done) | (simp [length_zP]; omega) | omega) (by omega) (by omega)) Tryz.func37 (by kernel_rfl) rfl rfl rfl (⟨⟨_, rfl, rfl, rfl⟩, trivial⟩) (⟨⟨_, _, rfl, rfl, rfl, rfl, (fun h => by cases h), rfl⟩, ⟨_, _, rfl, rfl, rfl, rfl, id, rfl⟩, trivial⟩) (⟨⟨501, _, rfl, rfl, rfl, rfl, .inr ⟨rfl, _, rfl, rfl⟩⟩, trivial⟩) (⟨(fun h => by cases h), (fun _ => ⟨1024, _, rfl, rfl⟩), trivial⟩) rfl) trivial rfl ?_
 refine .q (op_assign rfl) trivial rfl ?_
 refine .nil ?_
 show Ev _ _ _ _ _
 refine .ret ?_
 show RetOk _ _ _ _ _ _ _
 exact ret1v rfl (.inl rfl) rfl rfl trivial
set_option maxRecDepth 100000 in
theorem pack_t (e : Nat) (key : List UInt8) (hk : key.length = 32) (n : UInt64) (p : List UInt8) (h1 : 1 ≤ p.length) (h2 : p.length ≤ 32768) (eo : Nat → Nat × Nat) : Meets Tryz.prog 14 [.ptr 500 0, .str p] [(500, some ⟨dC true key n ([]), 29, true⟩), (22, some ⟨.aggI qsTab, e, false⟩)] (.tup [.str (packP true key n p), .err 269 (0) (offE eo (0))]) [(500, some ⟨dC true key (n + 1) ([]), 29, true⟩)] := by
 have hl := length_bodyP true p
 have hpad := padP_le true p.length
 refine meets_of_ev (nt := 53) Tryz.func14 rfl rfl (Nat.le_of_ble_eq_true rfl) ?_
 refine .seq ?_
 refine .region ?_
 refine .q (op_assign rfl) trivial rfl ?_
 refine .q (op_assign rfl) trivial rfl ?_
 refine .nil ?_
 show Ev _ _ _ _ _
 refine .seq ?_
 refine .seq ?_
 refine .region ?_
 refine .q (op_move rfl) trivial rfl ?_
 refine .q (op_eqS rfl rfl rfl) trivial rfl ?_
 refine .nil ?_
 show Ev _ _ _ _ _
 refine .cond_false rfl (beq_eq_false_iff_ne.2 (fun h => by rw [h] at h1; simp at h1)) ?_
 refine .skip ?_
 show Ev _ _ _ _ _
 refine .seq ?_
 refine .seq ?_
 refine .region ?_
 refine .q (op_move rfl) trivial rfl ?_
 refine .q (op_len_str Tryz.underlying9 rfl) trivial rfl ?_
 refine .q (op_cmpI rfl rfl rfl) trivial rfl ?_
 refine .nil ?_
 show Ev _ _ _ _ _
 refine .cond_false rfl (decide_eq_false (by omega)) ?_
 refine .skip ?_
 show Ev _ _ _ _ _
 refine .seq ?_
 refine .region ?_
 refine .q (op_move rfl) trivial rfl ?_
 refine .q (op_move rfl) trivial rfl ?_
 refine .q (op_call (U := []) [(500, 500)] [] (body_ev true key n p (by omega)) Tryz.func35 (by kernel_rfl) rfl rfl rfl (⟨⟨_, rfl, rfl, rfl⟩, ⟨_, rfl, rfl, rfl⟩, trivial⟩) (⟨⟨_, _, rfl, rfl, rfl, rfl, (fun h => by cases h), rfl⟩, trivial⟩) (trivial) (⟨(fun h => by cases h), trivial⟩) rfl) trivial rfl ?_
 refine .q (op_assign rfl) trivial rfl ?_
 refine .nil ?_
 show Ev _ _ _ _ _
 refine .seq ?_
 refine .region ?_
 refine .a (op_allocRow zero82 rel_zero82 rfl) trivial rfl ?_
 refine .nil ?_
 show Ev _ _ _ _ _
 refine .seq ?_
 refine .region ?_
 refine .q (op_move rfl) trivial rfl ?_
 refine .q (op_len_str Tryz.underlying9 rfl) trivial rfl ?_
 refine .q (op_conv Tryz.underlying3 Tryz.underlying85 rfl rfl) trivial rfl ?_
 refine .a (op_call (U := [(1000, some ⟨.agg [.ptr 1000 0, .sl 1008 0 (4) 1], 82, true⟩), (1008, some ⟨.aggB ((headP (bodyP true p).length)), 5, true⟩)]) [(500, 1000)] [(1008, 1000)] (u320_ev (ofI32 (((bodyP true p).length : Nat) : Int))) Tryz.func36 (by kernel_rfl) rfl rfl rfl (⟨⟨_, rfl, rfl, rfl⟩, ⟨_, rfl, rfl, rfl⟩, trivial⟩) (⟨⟨_, _, rfl, rfl, rfl, rfl, id, rfl⟩, trivial⟩) (⟨⟨500, _, rfl, rfl, rfl, rfl, .inr ⟨rfl, _, rfl, rfl⟩⟩, ⟨1000, _, rfl, rfl, rfl, rfl, .inl rfl⟩, trivial⟩) (⟨(fun _ => ⟨1000, _, rfl, rfl⟩), trivial⟩) rfl) trivial rfl ?_
 refine .a (op_call (U := [(1008, some ⟨.aggB (((headP (bodyP true p).length))), (frz + 5), false⟩)]) [(500, 1000), (501, 1008)] [] (bytes2_ev (((headP (bodyP true p).length))) (4) (by first | (simp [length_headP]; done) | (simp [length_numB, length_zP, length_headP]; omega) | omega) (by omega) (by omega)) Tryz.func37 (by kernel_rfl) rfl rfl rfl (⟨⟨_, rfl, rfl, rfl⟩, trivial⟩) (⟨⟨_, _, rfl, rfl, rfl, rfl, (fun h => by cases h), rfl⟩, ⟨_, _, rfl, rfl, rfl, rfl, id, rfl⟩, trivial⟩) (⟨⟨501, _, rfl, rfl, rfl, rfl, .inr ⟨rfl, _, rfl, rfl⟩⟩, trivial⟩) (⟨(fun h => by cases h), (fun _ => ⟨1008, _, rfl, rfl⟩), trivial⟩) rfl) trivial rfl ?_
 refine .q (op_assign rfl) trivial rfl ?_
 refine .nil ?_
 show Ev _ _ _ _ _
 refine .seq ?_
 refine .seq ?_
 refine .region ?_
 refine .q (op_move rfl) trivial rfl ?_
 refine .q (op_nilCheck rfl) trivial rfl ?_
 refine .q (op_fieldAddr (m := 33) Tryz.underlying29 rfl (by kernel_rfl) rfl) trivial rfl ?_
 refine .as (.ptr 500 0) rfl ?_
 refine .q (op_fieldAddr (m := 0) Tryz.underlying27 rfl (by kernel_rfl) rfl) trivial rfl ?_
 refine .as (.ptr 500 0) rfl ?_
 refine .q (op_load Tryz.underlying4 rfl rfl rfl rfl (dC_lt (by decide))) trivial rfl ?_
 refine .nil ?_
 show Ev _ _ _ _ _
 refine .cond_true rfl (rfl) ?_
 refine .drawn [[], [0], [0, 1], [0, 1, 2], [0, 1, 2, 3], [], [5], [5, 6], [5, 6, 7], [], [], [0, 1, 2, 3, 4, 5, 6, 7, 8, 9, 10], [0, 1, 2, 3, 4, 5, 6, 7, 8, 9, 10, 11]] [4, 8, 11] [] (by kernel_rfl) (by kernel_rfl) rfl ?_
 show DK _ [0, 1, 2, 3, 4, 5, 6, 7, 8, 9, 10, 11, 12] _ _ _
 refine .q rfl (op_move rfl) trivial ?_
 refine .q rfl (op_nilCheck rfl) trivial ?_
 refine .q rfl (op_fieldAddr (m := 33) Tryz.underlying29 rfl (by kernel_rfl) rfl) trivial ?_
 refine .as (.ptr 500 0) rfl ?_
 refine .q rfl (op_fieldAddr (m := 31) Tryz.underlying27 rfl (by kernel_rfl) rfl) trivial ?_
 refine .as (.ptr 500 1) rfl ?_
 refine .q rfl (op_loadPart (m := 32) (r := .aggB key) (cs := key.map .u8) Tryz.underlying24 rfl (by kernel_rfl) rfl rfl rfl (dC_keyL hk) (dC_key hk) (by rw [dC_len]; omega)) trivial ?_
 refine .q rfl (op_move rfl) trivial ?_
 refine .q rfl (op_nilCheck rfl) trivial ?_
 refine .q rfl (op_fieldAddr (m := 33) Tryz.underlying29 rfl (by kernel_rfl) rfl) trivial ?_
 refine .as (.ptr 500 0) rfl ?_
 refine .q rfl (op_call (U := []) [(500, 500)] [] (nonce_ev true key n [] 29) Tryz.func39 (by kernel_rfl) rfl rfl rfl (⟨⟨_, rfl, rfl, rfl⟩, trivial⟩) (⟨⟨_, _, rfl, rfl, rfl, rfl, (fun h => by cases h), rfl⟩, trivial⟩) (trivial) (⟨(fun h => by cases h), trivial⟩) rfl) trivial ?_
 refine .q rfl (op_move rfl) trivial ?_
 refine .q rfl (op_move rfl) trivial ?_
 refine .q rfl (op_call (U := []) [] [] (seal_ev e key (nonceP n) (bodyP true p) (headP (bodyP true p).length) hk (length_nonceP n) (by omega) (by rw [length_headP]; omega)) Tryz.func38 (by kernel_rfl) rfl rfl rfl (⟨⟨_, rfl, rfl, rfl⟩, ⟨_, rfl, rfl, rfl⟩, ⟨_, rfl, rfl, rfl⟩, ⟨_, rfl, rfl, rfl⟩, trivial⟩) (⟨⟨_, _, rfl, rfl, rfl, rfl, (fun h => by cases h), rfl⟩, trivial⟩) (trivial) (⟨(fun h => by cases h), trivial⟩) rfl) trivial ?_
 refine .as (.str (restP true key n p)) rfl ?_
 refine .q rfl (op_assign rfl) trivial ?_
 refine .nil ?_
 show Ev _ _ _ _ _
 refine .seq ?_
 refine .region ?_
 refine .q (op_move rfl) trivial rfl ?_
 refine .q (op_nilCheck rfl) trivial rfl ?_
 refine .q (op_fieldAddr (m := 33) Tryz.underlying29 rfl (by kernel_rfl) rfl) trivial rfl ?_
 refine .as (.ptr 500 0) rfl ?_
 refine .q (op_fieldAddr (m := 0) Tryz.underlying27 rfl (by kernel_rfl) rfl) trivial rfl ?_
 refine .as (.ptr 500 33) rfl ?_
 refine .q (op_load Tryz.underlying25 rfl rfl rfl rfl (dC_lt (by decide))) trivial rfl ?_
 refine .q (op_bin64 rfl rfl rfl) trivial rfl ?_
 refine .q (op_nilCheck rfl) trivial rfl ?_
 refine .q (op_fieldAddr (m := 33) Tryz.underlying29 rfl (by kernel_rfl) rfl) trivial rfl ?_
 refine .as (.ptr 500 0) rfl ?_
 refine .q (op_fieldAddr (m := 0) Tryz.underlying27 rfl (by kernel_rfl) rfl) trivial rfl ?_
 refine .as (.ptr 500 33) rfl ?_
 refine .w (op_store (c' := dC true key (n + 1) []) rfl rfl rfl rfl rfl rfl (dC_lt (by decide))) trivial rfl ?_
 refine .nil ?_
 show Ev _ _ _ _ _
 refine .seq ?_
 refine .region ?_
 refine .q (op_move rfl) trivial rfl ?_
 refine .q (op_move rfl) trivial rfl ?_
 refine .q (op_addS rfl rfl (by rw [length_headP]; rw [length_restP]; simp only [tagP]; omega)) trivial rfl ?_
 refine .as (.str (packP true key n p)) rfl ?_
 refine .q (op_assign rfl) trivial rfl ?_
 refine .q (op_assign rfl) trivial rfl ?_
 refine .asR (.err 269 (0) (offE eo (0))) (nil_err _ _) ?_
 refine .nil ?_
 show Ev _ _ _ _ _
 refine .ret ?_
 show RetOk _ _ _ _ _ _ _
 exact ret2v rfl (.inl rfl) rfl rfl rfl rfl ⟨rfl, trivial⟩
set_option maxRecDepth 100000 in
theorem pack_f (e : Nat) (key : List UInt8) (_hk : key.length = 32) (n : UInt64) (p : List UInt8) (h1 : 1 ≤ p.length) (h2 : p.length ≤ 32768) (eo : Nat → Nat × Nat) : Meets Tryz.prog 14 [.ptr 500 0, .str p] [(500, some ⟨dC false key n ([]), 29, true⟩), (22, some ⟨.aggI qsTab, e, false⟩)] (.tup [.str (packP false key n p), .err 269 (0) (offE eo (0))]) [(500, some ⟨dC false key (n + 1) ([]), 29, true⟩)] := by
 have hl := length_bodyP false p
 have hpad := padP_le false p.length
 refine meets_of_ev (nt := 53) Tryz.func14 rfl rfl (Nat.le_of_ble_eq_true rfl) ?_
 refine .seq ?_
 refine .region ?_
 refine .q (op_assign rfl) trivial rfl ?_
 refine .q (op_assign rfl) trivial rfl ?_
 refine .nil ?_
 show Ev _ _ _ _ _
 refine .seq ?_
 refine .seq ?_
 refine .region ?_
 refine .q (op_move rfl) trivial rfl ?_
 refine .q (op_eqS rfl rfl rfl) trivial rfl ?_
 refine .nil ?_
 show Ev _ _ _ _ _
 refine .cond_false rfl (beq_eq_false_iff_ne.2 (fun h => by rw [h] at h1; simp at h1)) ?_
 refine .skip ?_
 show Ev _ _ _ _ _
 refine .seq ?_
 refine .seq ?_
 refine .region ?_
 refine .q (op_move rfl) trivial rfl ?_
 refine .q (op_len_str Tryz.underlying9 rfl) trivial rfl ?_
 refine .q (op_cmpI rfl rfl rfl) trivial rfl ?_
 refine .nil ?_
 show Ev _ _ _ _ _
 refine .cond_false rfl (decide_eq_false (by omega)) ?_
 refine .skip ?_
 show Ev _ _ _ _ _
 refine .seq ?_
 refine .region ?_
 refine .q (op_move rfl) trivial rfl ?_
 refine .q (op_move rfl) trivial rfl ?_
 refine .q (op_call (U := []) [(500, 500)] [] (body_ev false key n p (by omega)) Tryz.func35 (by kernel_rfl) rfl rfl rfl (⟨⟨_, rfl, rfl, rfl⟩, ⟨_, rfl, rfl, rfl⟩, trivial⟩) (⟨⟨_, _, rfl, rfl, rfl, rfl, (fun h => by cases h), rfl⟩, trivial⟩) (trivial) (⟨(fun h => by cases h), trivial⟩) rfl) trivial rfl ?_
 refine .q (op_assign rfl) trivial rfl ?_
 refine .nil ?_
 show Ev _ _ _ _ _
 refine .seq ?_
 refine .region ?_
 refine .a (op_allocRow zero82 rel_zero82 rfl) trivial rfl ?_
 refine .nil ?_
 show Ev _ _ _ _ _
 refine .seq ?_
 refine .region ?_
 refine .q (op_move rfl) trivial rfl ?_
 refine .q (op_len_str Tryz.underlying9 rfl) trivial rfl ?_
 refine .q (op_conv Tryz.underlying3 Tryz.underlying85 rfl rfl) trivial rfl ?_
 refine .a (op_call (U := [(1000, some ⟨.agg [.ptr 1000 0, .sl 1008 0 (4) 1], 82, true⟩), (1008, some ⟨.aggB ((headP (bodyP false p).length)), 5, true⟩)]) [(500, 1000)] [(1008, 1000)] (u320_ev (ofI32 (((bodyP false p).length : Nat) : Int))) Tryz.func36 (by kernel_rfl) rfl rfl rfl (⟨⟨_, rfl, rfl, rfl⟩, ⟨_, rfl, rfl, rfl⟩, trivial⟩) (⟨⟨_, _, rfl, rfl, rfl, rfl, id, rfl⟩, trivial⟩) (⟨⟨500, _, rfl, rfl, rfl, rfl, .inr ⟨rfl, _, rfl, rfl⟩⟩, ⟨1000, _, rfl, rfl, rfl, rfl, .inl rfl⟩, trivial⟩) (⟨(fun _ => ⟨1000, _, rfl, rfl⟩), trivial⟩) rfl) trivial rfl ?_
 refine .a (op_call (U := [(1008, some ⟨.aggB (((headP (bodyP false p).length))), (frz + 5), false⟩)]) [(500, 1000), (501, 1008)] [] (bytes2_ev (((headP (bodyP false p).length))) (4) (by first | (simp [length_headP]; done) | (simp [length_numB, length_zP, length_headP]; omega) | omega) (by omega) (by omega)) Tryz.func37 (by kernel_rfl) rfl rfl rfl (⟨⟨_, rfl, rfl, rfl⟩, trivial⟩) (⟨⟨_, _, rfl, rfl, rfl, rfl, (fun h => by cases h), rfl⟩, ⟨_, _, rfl, rfl, rfl, rfl, id, rfl⟩, trivial⟩) (⟨⟨501, _, rfl, rfl, rfl, rfl, .inr ⟨rfl, _, rfl, rfl⟩⟩, trivial⟩) (⟨(fun h => by cases h), (fun _ => ⟨1008, _, rfl, rfl⟩), trivial⟩) rfl) trivial rfl ?_
 refine .q (op_assign rfl) trivial rfl ?_
 refine .nil ?_
 show Ev _ _ _ _ _
 refine .seq ?_
 refine .seq ?_
 refine .region ?_
 refine .q (op_move rfl) trivial rfl ?_
 refine .q (op_nilCheck rfl) trivial rfl ?_
 refine .q (op_fieldAddr (m := 33) Tryz.underlying29 rfl (by kernel_rfl) rfl) trivial rfl ?_
 refine .as (.ptr 500 0) rfl ?_
 refine .q (op_fieldAddr (m := 0) Tryz.underlying27 rfl (by kernel_rfl) rfl) trivial rfl ?_
 refine .as (.ptr 500 0) rfl ?_
 refine .q (op_load Tryz.underlying4 rfl rfl rfl rfl (dC_lt (by decide))) trivial rfl ?_
 refine .nil ?_
 show Ev _ _ _ _ _
 refine .cond_false rfl (rfl) ?_
 refine .skip ?_
 show Ev _ _ _ _ _
 refine .seq ?_
 refine .region ?_
 refine .q (op_move rfl) trivial rfl ?_
 refine .q (op_nilCheck rfl) trivial rfl ?_
 refine .q (op_fieldAddr (m := 33) Tryz.underlying29 rfl (by kernel_rfl) rfl) trivial rfl ?_
 refine .as (.ptr 500 0) rfl ?_
 refine .q (op_fieldAddr (m := 0) Tryz.underlying27 rfl (by kernel_rfl) rfl) trivial rfl ?_
 refine .as (.ptr 500 33) rfl ?_
 refine .q (op_load Tryz.underlying25 rfl rfl rfl rfl (dC_lt (by decide))) trivial rfl ?_
 refine .q (op_bin64 rfl rfl rfl) trivial rfl ?_
 refine .q (op_nilCheck rfl) trivial rfl ?_
 refine .q (op_fieldAddr (m := 33) Tryz.underlying29 rfl (by kernel_rfl) rfl) trivial rfl ?_
 refine .as (.ptr 500 0) rfl ?_
 refine .q (op_fieldAddr (m := 0) Tryz.underlying27 rfl (by kernel_rfl) rfl) trivial rfl ?_
 refine .as (.ptr 500 33) rfl ?_
 refine .w (op_store (c' := dC false key (n + 1) []) rfl rfl rfl rfl rfl rfl (dC_lt (by decide))) trivial rfl ?_
 refine .nil ?_
 show Ev _ _ _ _ _
 refine .seq ?_
 refine .region ?_
 refine .q (op_move rfl) trivial rfl ?_
 refine .q (op_move rfl) trivial rfl ?_
 refine .q (op_addS rfl rfl (by rw [length_headP]; skip; omega)) trivial rfl ?_
 refine .as (.str (packP false key n p)) rfl ?_
 refine .q (op_assign rfl) trivial rfl ?_
 refine .q (op_assign rfl) trivial rfl ?_
 refine .asR (.err 269 (0) (offE eo (0))) (nil_err _ _) ?_
 refine .nil ?_
 show Ev _ _ _ _ _
 refine .ret ?_
 show RetOk _ _ _ _ _ _ _
 exact ret2v rfl (.inl rfl) rfl rfl rfl rfl ⟨rfl, trivial⟩
end Go.Proofs.YtdmlpblaelfdmaaGreatDoor
