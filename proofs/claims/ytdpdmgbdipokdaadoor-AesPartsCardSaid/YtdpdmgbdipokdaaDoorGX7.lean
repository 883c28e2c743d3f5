/-
  Texts of this claim.
-/
import Derived.Test.YtdpdmgbdipokdaaDoorGTE
import Derived.Test.YtdpdmgbdipokdaaDoorGX6
import Derived.Test.YtdpdmgbdipokdaaDoorGX5
import Derived.Test.YtdpdmgbdipokdaaDoorGX4
import Derived.Test.YtdpdmgbdipokdaaDoorGX2
namespace Go.Proofs.YtdpdmgbdipokdaaDoor
open Go.RowKit
set_option maxRecDepth 100000 in
theorem cut_ev (s : List UInt8) (n : Nat) (_hs : s.length ≤ maxLen) (_hn : n ≤ 1000) : Meets Tryd.prog 14 [.str s, .i64 n] [] (.str (s.take n)) [] := by
 refine meets_of_ev (nt := 13) Tryd.func14 rfl rfl (Nat.le_of_ble_eq_true rfl) ?_
 refine .seq ?_
 refine .region ?_
 refine .q (op_assign rfl) trivial rfl ?_
 refine .nil ?_
 show Ev _ _ _ _ _
 refine .seq ?_
 refine .seq ?_
 refine .region ?_
 refine .q (op_move rfl) trivial rfl ?_
 refine .q (op_len_str Tryd.underlying9 rfl) trivial rfl ?_
 refine .q (op_move rfl) trivial rfl ?_
 refine .q (op_cmpI rfl rfl rfl) trivial rfl ?_
 refine .nil ?_
 show Ev _ _ _ _ _
 refine .cond rfl (fun hc8 => ?_) (fun hc8 => ?_)
 ·simp only [decide_eq_true_eq] at hc8
  refine .seq ?_
  refine .region ?_
  refine .q (op_move rfl) trivial rfl ?_
  refine .q (op_move rfl) trivial rfl ?_
  refine .q (ap_slice_str_hi Tryd.underlying9 rfl (bnd_some rfl rfl) (by first | omega | (simp only [AV.len]; omega) | (simp only [AV.len, List.length_set]; omega) | assumption | (simp [AV.len]; done))) trivial rfl ?_
  refine .q (op_assign rfl) trivial rfl ?_
  refine .nil ?_
  show Ev _ _ _ _ _
  refine .ret ?_
  show RetOk _ _ _ _ _ _ _
  first
   | exact ret1v rfl (.inl rfl) rfl (congrArg AV.str (by first | rfl | (rw [List.take_of_length_le (by omega)]))) trivial
   | exact ret1v rfl (.inl rfl) rfl rfl trivial
 ·simp only [decide_eq_false_iff_not] at hc8
  refine .skip ?_
  show Ev _ _ _ _ _
  refine .seq ?_
  refine .region ?_
  refine .q (op_move rfl) trivial rfl ?_
  refine .q (op_assign rfl) trivial rfl ?_
  refine .nil ?_
  show Ev _ _ _ _ _
  refine .ret ?_
  show RetOk _ _ _ _ _ _ _
  first
   | exact ret1v rfl (.inl rfl) rfl (congrArg AV.str (by first | rfl | (rw [List.take_of_length_le (by omega)]))) trivial
   | exact ret1v rfl (.inl rfl) rfl rfl trivial
end Go.Proofs.YtdpdmgbdipokdaaDoor
namespace Go.Proofs.YtdpdmgbdipokdaaDoor
open Go.RowKit
/-- The block of the byte before. -/
def bkX (K : List UInt8 → List UInt8) (c : List UInt8) (j : Nat) : List UInt8 := if j = 0 then [] else K (nxK c ((j - 1) / 16))
section
variable {P : Program} {T : Nat → Option AV} {H : Hp} {nm : Nat} {wr : Bool} {d : Option Tmp} {ty : TypeId} {ps : String} {af : Array Edge} {gd : Option (Nat × Bool)} {t : TypeId} {x y : Operand}
theorem op_index_str8 {s : List UInt8} {q : UInt8} (ht : P.underlying t = some .string) (hx : aev T x = some (.str s)) (hy : aev T y = some (.u8 q)) (hlt : q.toNat < s.length) :
    OpSem P T H ⟨d, .index t x y, ty, ps, af, gd⟩ nm wr (.u8 (s.getD q.toNat 0)) [] :=
  .quiet fun E a w h => by
    have h1 := (h x mem21 _ hx).str_inv
    have h2 := (h y mem22 _ hy).u8_inv
    refine ⟨.int .u8 ((s.getD q.toNat 0).toNat : Int), ?_, .u8 _⟩
    have hg : (⟨s.toArray⟩ : ByteArray)[q.toNat]? = some (s.getD q.toNat 0) := by
      have hsz : q.toNat < (⟨s.toArray⟩ : ByteArray).size := by simpa [ByteArray.size] using hlt
      rw [getElem?_pos (⟨s.toArray⟩ : ByteArray) q.toNat hsz]
      simp [List.getD_eq_getElem?_getD, hlt]
      rfl
    simp [execOp, h1, h2, Instr.index, asIntOf, run_underlying ht, hg]
variable {t2 e : TypeId} {b o n : Nat} {k : ABlk} {l : List UInt8}
/-- string(bytes) of a part of a row. -/
theorem op_bytes_strR (hs : P.underlying t = some (.slice e)) (he : P.underlying e = some (.int .u8)) (hd : P.underlying t2 = some .string) (hx : aev T x = some (.sl b o n 1)) (hk : H b = some k) (h0n : 0 < n) (hl : l.length = n) (hc : (k.c.list.drop o).take n = l.map .u8) (hmm : k.c.isMap = false := by first | rfl | assumption | exact AV.map_parts (by assumption)) :
    OpSem P T H ⟨d, .convert t t2 x, ty, ps, af, gd⟩ nm wr (.str l) [] :=
  .reads fun E S a w h hR => by
    obtain ⟨l', s', h3, h4⟩ := hR.blkR hk hmm
    have hcell : ∀ i (hi : i < l.length), w.cell? ⟨l', o + i, none⟩ = some (.int .u8 (l[i].toNat : Int)) := fun i hi => by
      have hq : k.c.list[o + i]? = some (.u8 l[i]) := by
        rw [← List.getElem?_drop, ← List.getElem?_take_of_lt (show i < n by omega), hc]
        simp [hi]
      obtain ⟨_, y, h5, h6⟩ := h4.cell hq
      rw [h5, h6.u8_inv]
    rcases (h x mem1 _ hx).sl_inv with ⟨lc, s, c, g1, g2, g3, g4, g5⟩ | ⟨ad, h0, g5⟩
    · rw [g1] at h3; injection h3 with h3; injection h3 with e1 _; subst e1
      have := run_convert_bytes_back (P := P) w t t2 e ⟨lc, o, none⟩ c l hs he hd (fun j hj => by rw [add_at, hcell _ hj])
      rw [hl] at this
      exact ⟨_, by simp [execOp, g5, this], .str _⟩
    · omega
end
set_option maxRecDepth 100000 in
theorem rnext_ev (l : List UInt8) (ha : l.length = 16) : Meets Tryd.prog 32 [.str l] [] (.str (nxL l)) [] := by
 refine meets_of_ev (nt := 28) Tryd.func32 rfl rfl (Nat.le_of_ble_eq_true rfl) ?_
 refine .seq ?_
 refine .region ?_
 refine .q (op_assign rfl) trivial rfl ?_
 refine .nil ?_
 show Ev _ _ _ _ _
 refine .seq ?_
 refine .region ?_
 refine .q (op_move rfl) trivial rfl ?_
 refine .a (op_str_bytes Tryd.underlying9 Tryd.underlying34 Tryd.underlying5 rfl (by unfold maxLen; omega)) trivial rfl ?_
 refine .as (.sl 1000 0 16 1) (by rw [ha]) ?_
 refine .q (op_assign rfl) trivial rfl ?_
 refine .nil ?_
 show Ev _ _ _ _ _
 refine .seq ?_
 refine .seq ?_
 refine .region ?_
 refine .q (op_assign rfl) trivial rfl ?_
 refine .nil ?_
 show Ev _ _ _ _ _
 refine .block ?_
 refine Ev.loop (ι := { p : Nat × List UInt8 // p.2.length = 16 ∧ p.1 ≤ 16 ∧ nxG p.1 p.2 = nxL l }) (fun q => ⟨[(3, .sl 1000 0 16 1), (4, .i64 ((q.1.1 : Int) - 1))], [(1000, some ⟨.aggB q.1.2, 5, true⟩)], 1008⟩) (fun q => q.1.1) ⟨(16, l), ha, Nat.le_refl _, rfl⟩ (StLe.mk [(1000, 1000)] rfl rfl ⟨⟨_, rfl, by rfl, rfl⟩, ⟨_, rfl, by (simp only [AV.ren]; rfl), rfl⟩, trivial⟩ ⟨⟨_, _, rfl, rfl, rfl, rfl, id, rfl⟩, trivial⟩) ?_
 rintro ⟨⟨k, m⟩, hm, hk, he⟩
 try dsimp only
 replace hm : m.length = 16 := hm
 replace hk : k ≤ 16 := hk
 replace he : nxG k m = nxL l := he
 refine .seq ?_
 refine .seq ?_
 refine .region ?_
 refine .q (op_move rfl) trivial rfl ?_
 refine .q (op_cmpI rfl rfl rfl) trivial rfl ?_
 refine .nil ?_
 show Ev _ _ _ _ _
 refine .cond rfl (fun hc8 => ?_) (fun hc8 => ?_)
 ·simp only [decide_eq_true_eq] at hc8
  refine .skip ?_
  show Ev _ _ _ _ _
  refine .seq ?_
  refine .block ?_
  refine .seq ?_
  refine .region ?_
  refine .q (op_move rfl) trivial rfl ?_
  refine .q (op_move rfl) trivial rfl ?_
  refine .q (op_move rfl) trivial rfl ?_
  refine .q (op_move rfl) trivial rfl ?_
  refine .q (ap_idx0 Tryd.underlying34 inf5.sz rfl rfl (i := k - 1) (by omega) (by omega)) trivial rfl ?_
  refine .q (op_load Tryd.underlying5 rfl rfl rfl rfl (by show _ < List.length _; rw [hm]; omega)) trivial rfl ?_
  refine .q (op_bin8 rfl rfl rfl) trivial rfl ?_
  refine .q (ap_idx0 Tryd.underlying34 inf5.sz rfl rfl (i := k - 1) (by omega) (by omega)) trivial rfl ?_
  refine .w (op_store inf5.sz rfl rfl rfl rfl rfl (by show _ < List.length _; rw [hm]; omega)) trivial rfl ?_
  refine .nil ?_
  show Ev _ _ _ _ _
  refine .seq ?_
  refine .region ?_
  refine .q (op_move rfl) trivial rfl ?_
  refine .q (op_move rfl) trivial rfl ?_
  refine .q (ap_idx0 Tryd.underlying34 inf5.sz rfl rfl (i := k - 1) (by omega) (by omega)) trivial rfl ?_
  refine .q (op_load Tryd.underlying5 rfl rfl rfl rfl (by show _ < List.length _; rw [List.length_set, hm]; omega)) trivial rfl ?_
  refine .as (.u8 (m.getD (k - 1) 0 + 1)) (by rw [getD_set_same _ _ _ _ (by omega)]; rfl) ?_
  refine .q (op_bin8 rfl rfl rfl) trivial rfl ?_
  refine .nil ?_
  show Ev _ _ _ _ _
  refine .cond rfl (fun hc23 => ?_) (fun hc23 => ?_)
  ·simp only [bne_iff_ne, ne_eq] at hc23
   refine .seq ?_
   refine .region ?_
   refine .q (op_move rfl) trivial rfl ?_
   refine .q (op_bytes_str Tryd.underlying34 Tryd.underlying5 Tryd.underlying9 rfl rfl rfl (by rw [List.length_set]; omega)) trivial rfl ?_
   refine .q (op_assign rfl) trivial rfl ?_
   refine .nil ?_
   show Ev _ _ _ _ _
   refine .ret ?_
   show RetOk _ _ _ _ _ _ _
   first
    | exact ret1v rfl (.inl rfl) rfl (congrArg AV.str (by rw [List.drop_zero, List.take_of_length_le (by rw [List.length_set]; omega), ← he]; (conv => rhs; rw [show k = (k - 1) + 1 by omega]); rw [nxG, if_neg (by simpa using hc23)]; rfl)) trivial
    | exact ret1v rfl (.inl rfl) rfl (congrArg AV.str (by rw [List.drop_zero, List.take_of_length_le (by omega), ← he, show k = 0 by omega]; rfl)) trivial
  ·simp only [bne_eq_false_iff_eq] at hc23
   refine .skip ?_
   show Ev _ _ _ _ _
   refine .region ?_
   refine .q (op_move rfl) trivial rfl ?_
   refine .q (op_subI rfl rfl ⟨by omega, by omega⟩) trivial rfl ?_
   refine .q (op_assign rfl) trivial rfl ?_
   refine .nil ?_
   exact ⟨⟨(k - 1, m.set (k - 1) (m.getD (k - 1) 0 + 1)), by rw [List.length_set]; exact hm, by omega, by rw [← he]; conv => rhs; rw [show k = (k - 1) + 1 by omega]; rw [nxG, if_pos (by simpa using hc23)]⟩, by (try dsimp only); omega, StLe.mk [(1000, 1000)] rfl rfl ⟨⟨_, rfl, by rfl, rfl⟩, ⟨_, rfl, by (simp only [AV.ren]; congr 1 <;> omega), rfl⟩, trivial⟩ ⟨⟨_, _, rfl, rfl, rfl, rfl, id, rfl⟩, trivial⟩⟩
 ·simp only [decide_eq_false_iff_not] at hc8
  refine .exit ?_
  show Ev _ _ _ _ _
  refine .seq ?_
  refine .region ?_
  refine .q (op_move rfl) trivial rfl ?_
  refine .q (op_bytes_str Tryd.underlying34 Tryd.underlying5 Tryd.underlying9 rfl rfl rfl (by omega)) trivial rfl ?_
  refine .q (op_assign rfl) trivial rfl ?_
  refine .nil ?_
  show Ev _ _ _ _ _
  refine .ret ?_
  show RetOk _ _ _ _ _ _ _
  first
   | exact ret1v rfl (.inl rfl) rfl (congrArg AV.str (by rw [List.drop_zero, List.take_of_length_le (by rw [List.length_set]; omega), ← he]; (conv => rhs; rw [show k = (k - 1) + 1 by omega]); rw [nxG, if_neg (by simpa using hc23)]; rfl)) trivial
   | exact ret1v rfl (.inl rfl) rfl (congrArg AV.str (by rw [List.drop_zero, List.take_of_length_le (by omega), ← he, show k = 0 by omega]; rfl)) trivial
set_option maxRecDepth 100000 in
theorem rxor_ev (key c s : List UInt8) (n : Nat) (hkey : key.length = 4 * n) (hn : 4 ≤ n ∧ n ≤ 8) (hc : c.length = 16) (hs : s.length ≤ 100000) : Meets Tryd.prog 16 [.str key, .str c, .str s] [] (.str (xoL (blkL bxT (exL bxT n key) (n + 6)) c s)) [] := by
 refine meets_of_ev (nt := 38) Tryd.func16 rfl rfl (Nat.le_of_ble_eq_true rfl) ?_
 refine .seq ?_
 refine .region ?_
 refine .q (op_assign rfl) trivial rfl ?_
 refine .nil ?_
 show Ev _ _ _ _ _
 refine .seq ?_
 refine .region ?_
 refine .a (ap_build0 (z := 1) (c := .aggB []) Tryd.underlying34 inf5 rfl) trivial rfl ?_
 refine .q (op_assign rfl) trivial rfl ?_
 refine .nil ?_
 show Ev _ _ _ _ _
 refine .seq ?_
 refine .region ?_
 refine .q (op_assign rfl) trivial rfl ?_
 refine .nil ?_
 show Ev _ _ _ _ _
 refine .seq ?_
 refine .seq ?_
 refine .region ?_
 refine .q (op_assign rfl) trivial rfl ?_
 refine .nil ?_
 show Ev _ _ _ _ _
 refine .block ?_
 refine Ev.loop (ι := { j : Nat // j ≤ s.length }) (fun j => ⟨[(0, .str key), (1, .str (nxK c ((j.1 + 15) / 16))), (2, .str s), (7, .sl 1000 0 j.1 1), (8, .str (bkX (blkL bxT (exL bxT n key) (n + 6)) c j.1)), (9, .i64 ((j.1 : Nat) : Int))], [(1000, some ⟨.aggB (rgL j.1 (xsF (blkL bxT (exL bxT n key) (n + 6)) c s)), 5, true⟩)], 1008⟩) (fun j => s.length - j.1) ⟨0, Nat.zero_le _⟩ (StLe.mk [(1000, 1000)] rfl rfl ⟨⟨_, rfl, by first | rfl | (simp only [AV.ren]; congr 1 <;> omega), rfl⟩, ⟨_, rfl, by (simp only [AV.ren]; rfl), rfl⟩, ⟨_, rfl, by first | rfl | (simp only [AV.ren]; congr 1 <;> omega), rfl⟩, ⟨_, rfl, by first | rfl | (simp only [AV.ren]; congr 1 <;> omega), rfl⟩, ⟨_, rfl, by (simp only [AV.ren]; rfl), rfl⟩, ⟨_, rfl, by first | rfl | (simp only [AV.ren]; congr 1 <;> omega), rfl⟩, trivial⟩ ⟨⟨_, _, rfl, rfl, by (simp only [AV.ren]; rfl), elemLe_same, own_same, rfl⟩, trivial⟩) ?_
 rintro ⟨j, hj⟩
 dsimp only
 have hl : (rgL j (xsF (blkL bxT (exL bxT n key) (n + 6)) c s)).length = j := length_rgL _ _
 have hcl := length_nxK c (j / 16)
 refine .seq ?_
 refine .seq ?_
 refine .region ?_
 refine .q (op_move rfl) trivial rfl ?_
 refine .q (op_move rfl) trivial rfl ?_
 refine .q (op_len_str Tryd.underlying9 rfl) trivial rfl ?_
 refine .q (op_cmpI rfl rfl rfl) trivial rfl ?_
 refine .nil ?_
 show Ev _ _ _ _ _
 refine .cond rfl (fun hc14 => ?_) (fun hc14 => ?_)
 ·simp only [decide_eq_true_eq] at hc14
  refine .skip ?_
  show Ev _ _ _ _ _
  refine .seq ?_
  refine .block ?_
  refine .seq ?_
  refine .seq ?_
  refine .region ?_
  refine .q (op_move rfl) trivial rfl ?_
  refine .q (op_remI rfl rfl ⟨by omega, by omega⟩) trivial rfl ?_
  refine .q (op_cmpI rfl rfl rfl) trivial rfl ?_
  refine .nil ?_
  show Ev _ _ _ _ _
  refine .cond rfl (fun hc19 => ?_) (fun hc19 => ?_)
  ·simp only [beq_iff_eq] at hc19
   refine .seq ?_
   refine .region ?_
   refine .q (op_move rfl) trivial rfl ?_
   refine .q (op_move rfl) trivial rfl ?_
   refine .as (.str (nxK c (j / 16))) (by rw [show (j + 15) / 16 = j / 16 by omega]) ?_
   refine .q (op_call (U := []) [] [] (rblock_ev key _ n hkey hn (hcl.trans hc)) Tryd.func12 (by kernel_rfl) rfl rfl rfl (⟨⟨_, rfl, rfl, rfl⟩, ⟨_, rfl, rfl, rfl⟩, trivial⟩) (trivial) (trivial) (trivial) rfl) trivial rfl ?_
   refine .q (op_assign rfl) trivial rfl ?_
   refine .nil ?_
   show Ev _ _ _ _ _
   refine .region ?_
   refine .q (op_move rfl) trivial rfl ?_
   refine .as (.str (nxK c (j / 16))) (by rw [show (j + 15) / 16 = j / 16 by omega]) ?_
   refine .q (op_call (U := []) [] [] (rnext_ev _ (hcl.trans hc)) Tryd.func32 (by kernel_rfl) rfl rfl rfl (⟨⟨_, rfl, rfl, rfl⟩, trivial⟩) (trivial) (trivial) (trivial) rfl) trivial rfl ?_
   refine .q (op_assign rfl) trivial rfl ?_
   refine .nil ?_
   show Ev _ _ _ _ _
   refine .drawn [[], [], [], [1, 2], [], [], [5], [4, 5, 6], [1, 2, 3, 4, 5, 6, 7], [1, 2, 3, 4, 5, 6, 7, 8], [0, 1, 2, 3, 4, 5, 6, 7, 8, 9], [0, 1, 2, 3, 4, 5, 6, 7, 8, 9, 10]] [9, 10] [10] (by kernel_rfl) (by kernel_rfl) rfl ?_
   show DK _ [0, 1, 2, 3, 4, 5, 6, 7, 8, 9, 10, 11] _ _ _
   refine .q rfl (op_move rfl) trivial ?_
   refine .q rfl (op_move rfl) trivial ?_
   refine .q rfl (op_move rfl) trivial ?_
   refine .q rfl (op_index_str Tryd.underlying9 rfl rfl rfl (by first | omega | (simp only [AV.len]; omega) | (simp only [AV.len, List.length_set]; omega) | assumption | (simp [AV.len]; done))) trivial ?_
   refine .q rfl (op_move rfl) trivial ?_
   refine .as (.str ((blkL bxT (exL bxT n key) (n + 6)) (nxK c (j / 16)))) (by first | rfl | (rw [bkX, if_neg (by omega), show (j - 1) / 16 = j / 16 by omega])) ?_
   refine .q rfl (op_move rfl) trivial ?_
   refine .q rfl (op_remI rfl rfl ⟨by omega, by omega⟩) trivial ?_
   refine .q rfl (op_index_str Tryd.underlying9 rfl rfl (i := j % 16) (by omega) (by show _ < List.length (blkN _ _ _ _ _); rw [length_blkN]; omega)) trivial ?_
   refine .q rfl (op_bin8 rfl rfl rfl) trivial ?_
   refine .a rfl (ap_build (us := [_]) (c := .aggB [_]) Tryd.underlying34 inf5 rfl (by decide) (by decide) ⟨rfl, rfl, rfl, trivial⟩ rfl) trivial rfl rfl ?_
   refine .a rfl (ap_cat Tryd.underlying34 inf5 rfl rfl rfl rfl (by first | omega | rfl | (simp only [AV.len]; omega) | exact hl) rfl rfl (by first | omega | rfl | (simp only [AV.len]; omega) | exact hl) rfl (by first | omega | rfl | (simp only [AV.len]; omega) | exact hl)) trivial rfl rfl ?_
   refine .q rfl (op_assign rfl) trivial ?_
   refine .nil ?_
   show Ev _ _ _ _ _
   refine .region ?_
   refine .q (op_move rfl) trivial rfl ?_
   refine .q (op_addI rfl rfl ⟨by omega, by omega⟩) trivial rfl ?_
   refine .q (op_assign rfl) trivial rfl ?_
   refine .nil ?_
   exact ⟨⟨j + 1, by omega⟩, by show s.length - (j + 1) < s.length - j; omega, StLe.mk [(1000, 1088)] rfl rfl ⟨⟨_, rfl, by first | rfl | (simp only [AV.ren]; congr 1 <;> omega), rfl⟩, ⟨_, rfl, by (simp only [AV.ren]; first | (rw [show (j + 1 + 15) / 16 = j / 16 + 1 by omega]; rfl) | (rw [show (j + 15) / 16 = (j + 1 + 15) / 16 by omega])), rfl⟩, ⟨_, rfl, by first | rfl | (simp only [AV.ren]; congr 1 <;> omega), rfl⟩, ⟨_, rfl, by first | rfl | (simp only [AV.ren]; congr 1 <;> omega), rfl⟩, ⟨_, rfl, by (simp only [AV.ren]; first | (rw [bkX, if_neg (by omega), bkX, if_neg (by omega), show (j - 1) / 16 = (j + 1 - 1) / 16 by omega]; done) | (rw [bkX, if_neg (by omega), Nat.add_sub_cancel])), rfl⟩, ⟨_, rfl, by first | rfl | (simp only [AV.ren]; congr 1 <;> omega), rfl⟩, trivial⟩ ⟨⟨_, _, rfl, rfl, by (simp only [AV.ren]; rw [rgL_succ]; rfl), elemLe_same, own_same, rfl⟩, trivial⟩⟩
  ·simp only [ne_eq, beq_eq_false_iff_ne] at hc19
   refine .skip ?_
   show Ev _ _ _ _ _
   refine .drawn [[], [], [], [1, 2], [], [], [5], [4, 5, 6], [1, 2, 3, 4, 5, 6, 7], [1, 2, 3, 4, 5, 6, 7, 8], [0, 1, 2, 3, 4, 5, 6, 7, 8, 9], [0, 1, 2, 3, 4, 5, 6, 7, 8, 9, 10]] [9, 10] [10] (by kernel_rfl) (by kernel_rfl) rfl ?_
   show DK _ [0, 1, 2, 3, 4, 5, 6, 7, 8, 9, 10, 11] _ _ _
   refine .q rfl (op_move rfl) trivial ?_
   refine .q rfl (op_move rfl) trivial ?_
   refine .q rfl (op_move rfl) trivial ?_
   refine .q rfl (op_index_str Tryd.underlying9 rfl rfl rfl (by first | omega | (simp only [AV.len]; omega) | (simp only [AV.len, List.length_set]; omega) | assumption | (simp [AV.len]; done))) trivial ?_
   refine .q rfl (op_move rfl) trivial ?_
   refine .as (.str ((blkL bxT (exL bxT n key) (n + 6)) (nxK c (j / 16)))) (by first | rfl | (rw [bkX, if_neg (by omega), show (j - 1) / 16 = j / 16 by omega])) ?_
   refine .q rfl (op_move rfl) trivial ?_
   refine .q rfl (op_remI rfl rfl ⟨by omega, by omega⟩) trivial ?_
   refine .q rfl (op_index_str Tryd.underlying9 rfl rfl (i := j % 16) (by omega) (by show _ < List.length (blkN _ _ _ _ _); rw [length_blkN]; omega)) trivial ?_
   refine .q rfl (op_bin8 rfl rfl rfl) trivial ?_
   refine .a rfl (ap_build (us := [_]) (c := .aggB [_]) Tryd.underlying34 inf5 rfl (by decide) (by decide) ⟨rfl, rfl, rfl, trivial⟩ rfl) trivial rfl rfl ?_
   refine .a rfl (ap_cat Tryd.underlying34 inf5 rfl rfl rfl rfl (by first | omega | rfl | (simp only [AV.len]; omega) | exact hl) rfl rfl (by first | omega | rfl | (simp only [AV.len]; omega) | exact hl) rfl (by first | omega | rfl | (simp only [AV.len]; omega) | exact hl)) trivial rfl rfl ?_
   refine .q rfl (op_assign rfl) trivial ?_
   refine .nil ?_
   show Ev _ _ _ _ _
   refine .region ?_
   refine .q (op_move rfl) trivial rfl ?_
   refine .q (op_addI rfl rfl ⟨by omega, by omega⟩) trivial rfl ?_
   refine .q (op_assign rfl) trivial rfl ?_
   refine .nil ?_
   exact ⟨⟨j + 1, by omega⟩, by show s.length - (j + 1) < s.length - j; omega, StLe.mk [(1000, 1088)] rfl rfl ⟨⟨_, rfl, by first | rfl | (simp only [AV.ren]; congr 1 <;> omega), rfl⟩, ⟨_, rfl, by (simp only [AV.ren]; first | (rw [show (j + 1 + 15) / 16 = j / 16 + 1 by omega]; rfl) | (rw [show (j + 15) / 16 = (j + 1 + 15) / 16 by omega])), rfl⟩, ⟨_, rfl, by first | rfl | (simp only [AV.ren]; congr 1 <;> omega), rfl⟩, ⟨_, rfl, by first | rfl | (simp only [AV.ren]; congr 1 <;> omega), rfl⟩, ⟨_, rfl, by (simp only [AV.ren]; first | (rw [bkX, if_neg (by omega), bkX, if_neg (by omega), show (j - 1) / 16 = (j + 1 - 1) / 16 by omega]; done) | (rw [bkX, if_neg (by omega), Nat.add_sub_cancel])), rfl⟩, ⟨_, rfl, by first | rfl | (simp only [AV.ren]; congr 1 <;> omega), rfl⟩, trivial⟩ ⟨⟨_, _, rfl, rfl, by (simp only [AV.ren]; rw [rgL_succ]; rfl), elemLe_same, own_same, rfl⟩, trivial⟩⟩
 ·simp only [decide_eq_false_iff_not] at hc14
  refine .exit ?_
  show Ev _ _ _ _ _
  have ej : j = s.length := by omega
  refine Ev.weak (st2 := ⟨[(0, .str key), (1, .str (nxK c (((s.length) + 15) / 16))), (2, .str s), (7, .sl 1000 0 (s.length) 1), (8, .str (bkX (blkL bxT (exL bxT n key) (n + 6)) c (s.length))), (9, .i64 (((s.length) : Nat) : Int))], [(1000, some ⟨.aggB (rgL (s.length) (xsF (blkL bxT (exL bxT n key) (n + 6)) c s)), 5, true⟩)], 1008⟩) (StLe.mk [(1000, 1000)] rfl rfl ⟨⟨_, rfl, by first | (simp only [AV.ren]; done) | (simp only [AV.ren]; rw [ej]; done) | rfl, rfl⟩, ⟨_, rfl, by (subst ej; rfl), rfl⟩, ⟨_, rfl, by first | (simp only [AV.ren]; done) | (simp only [AV.ren]; rw [ej]; done) | rfl, rfl⟩, ⟨_, rfl, by (subst ej; rfl), rfl⟩, ⟨_, rfl, by (subst ej; rfl), rfl⟩, ⟨_, rfl, by first | (simp only [AV.ren]; done) | (simp only [AV.ren]; rw [ej]; done) | rfl, rfl⟩, trivial⟩ ⟨⟨_, _, rfl, rfl, by (subst ej; rfl), elemLe_same, own_same, rfl⟩, trivial⟩) ?_
  refine .seq ?_
  refine .region ?_
  refine .q (op_move rfl) trivial rfl ?_
  refine .q (op_bytes_str Tryd.underlying34 Tryd.underlying5 Tryd.underlying9 rfl rfl rfl (by rw [length_rgL]; omega)) trivial rfl ?_
  refine .q (op_assign rfl) trivial rfl ?_
  refine .nil ?_
  show Ev _ _ _ _ _
  refine .ret ?_
  show RetOk _ _ _ _ _ _ _
  exact ret1v rfl (.inl rfl) rfl (congrArg AV.str (by rw [List.drop_zero, List.take_of_length_le (by rw [length_rgL]; omega)]; rfl)) trivial
def keyT (kB : List UInt8) (sz : Int) : List UInt8 := if sz = 0 then kB.take 16 else if sz = 1 then kB.take 24 else kB
def keyM (sz : Int) : Nat := if sz = 0 then 4 else if sz = 1 then 6 else 8
theorem length_keyT (kB : List UInt8) (sz : Int) (h : kB.length = 32) : (keyT kB sz).length = 4 * keyM sz := by
 unfold keyT keyM
 split
 ·rw [List.length_take]; omega
 ·split
  ·rw [List.length_take]; omega
  ·omega
theorem keyM_ok (sz : Int) : keyM sz = 4 ∨ keyM sz = 6 ∨ keyM sz = 8 := by
 unfold keyM
 split
 ·exact .inl rfl
 ·split
  ·exact .inr (.inl rfl)
  ·exact .inr (.inr rfl)
theorem kT_list (kB : List UInt8) (sz : Int) (n : Nat) (hB : kB.length = 32) (hn : n ≤ 32) : ((AV.agg (kB.map .u8 ++ [.i64 sz])).list.drop 0).take n = (kB.take n).map .u8 := by
 show ((kB.map AV.u8 ++ [AV.i64 sz]).drop 0).take n = _
 rw [List.drop_zero, List.take_append_of_le_length (by rw [List.length_map]; omega), List.map_take]
set_option maxRecDepth 100000 in
theorem text_ev (kB : List UInt8) (sz : Int) (hB : kB.length = 32) : Meets Tryd.prog 10 [.agg (kB.map .u8 ++ [.i64 sz])] [] (.str (keyT kB sz)) [] := by
 refine meets_of_ev (nt := 18) Tryd.func10 rfl rfl (Nat.le_of_ble_eq_true rfl) ?_
 refine .seq ?_
 refine .region ?_
 refine .a (op_boxRow rfl rfl) trivial rfl ?_
 refine .q (op_assign rfl) trivial rfl ?_
 refine .nil ?_
 show Ev _ _ _ _ _
 refine .seq ?_
 refine .seq ?_
 refine .region ?_
 refine .q (op_fieldAddr (m := 0) Tryd.underlying24 rfl (by kernel_rfl) rfl) trivial rfl ?_
 refine .as (.ptr 1000 32) rfl ?_
 refine .q (op_load Tryd.underlying3 rfl rfl rfl (show (kB.map AV.u8 ++ [.i64 sz])[32]? = some (.i64 sz) by rw [List.getElem?_append_right (by rw [List.length_map, hB]; omega), List.length_map, hB]; rfl) (by rw [AV.len, List.length_append, List.length_map, hB]; exact Nat.le_of_ble_eq_true rfl)) trivial rfl ?_
 refine .nil ?_
 show Ev _ _ _ _ _
 refine .block ?_
 refine .seq ?_
 refine .region ?_
 refine .q (op_cmpI rfl rfl rfl) trivial rfl ?_
 refine .q (op_assign rfl) trivial rfl ?_
 refine .nil ?_
 show Ev _ _ _ _ _
 refine .cond rfl (fun hc5 => ?_) (fun hc5 => ?_)
 ·skip
  refine .seq ?_
  refine .region ?_
  refine .q (op_fieldAddr (m := 31) Tryd.underlying24 rfl (by kernel_rfl) rfl) trivial rfl ?_
  refine .as (.ptr 1000 0) rfl ?_
  refine .q (ap_slice_arr_hi (h := 16) Tryd.underlying22 inf5.sz rfl rfl (by rw [AV.len, List.length_append, List.length_map, hB]; exact Nat.le_of_ble_eq_true rfl) (by decide) (bnd_some rfl rfl) (by decide)) trivial rfl ?_
  refine .q (op_bytes_strR (l := kB.take 16) Tryd.underlying34 Tryd.underlying5 Tryd.underlying9 rfl rfl (by decide) (by first | exact hB | (rw [List.length_take, hB]; rfl)) (kT_list kB sz 16 hB (by decide))) trivial rfl ?_
  refine .q (op_assign rfl) trivial rfl ?_
  refine .nil ?_
  show Ev _ _ _ _ _
  refine .ret ?_
  show RetOk _ _ _ _ _ _ _
  first
   | exact ret1v rfl (.inl rfl) rfl (congrArg AV.str (by rw [keyT, if_pos (of_decide_eq_true hc5)])) trivial
   | exact ret1v rfl (.inl rfl) rfl (congrArg AV.str (by rw [keyT, if_neg (of_decide_eq_false hc5), if_pos (of_decide_eq_true hc10)])) trivial
   | exact ret1v rfl (.inl rfl) rfl (congrArg AV.str (by rw [keyT, if_neg (of_decide_eq_false hc5), if_neg (of_decide_eq_false hc10)])) trivial
 ·skip
  refine .seq ?_
  refine .region ?_
  refine .q (op_cmpI rfl rfl rfl) trivial rfl ?_
  refine .q (op_assign rfl) trivial rfl ?_
  refine .nil ?_
  show Ev _ _ _ _ _
  refine .cond rfl (fun hc10 => ?_) (fun hc10 => ?_)
  ·skip
   refine .seq ?_
   refine .region ?_
   refine .q (op_fieldAddr (m := 31) Tryd.underlying24 rfl (by kernel_rfl) rfl) trivial rfl ?_
   refine .as (.ptr 1000 0) rfl ?_
   refine .q (ap_slice_arr_hi (h := 24) Tryd.underlying22 inf5.sz rfl rfl (by rw [AV.len, List.length_append, List.length_map, hB]; exact Nat.le_of_ble_eq_true rfl) (by decide) (bnd_some rfl rfl) (by decide)) trivial rfl ?_
   refine .q (op_bytes_strR (l := kB.take 24) Tryd.underlying34 Tryd.underlying5 Tryd.underlying9 rfl rfl (by decide) (by first | exact hB | (rw [List.length_take, hB]; rfl)) (kT_list kB sz 24 hB (by decide))) trivial rfl ?_
   refine .q (op_assign rfl) trivial rfl ?_
   refine .nil ?_
   show Ev _ _ _ _ _
   refine .ret ?_
   show RetOk _ _ _ _ _ _ _
   first
    | exact ret1v rfl (.inl rfl) rfl (congrArg AV.str (by rw [keyT, if_pos (of_decide_eq_true hc5)])) trivial
    | exact ret1v rfl (.inl rfl) rfl (congrArg AV.str (by rw [keyT, if_neg (of_decide_eq_false hc5), if_pos (of_decide_eq_true hc10)])) trivial
    | exact ret1v rfl (.inl rfl) rfl (congrArg AV.str (by rw [keyT, if_neg (of_decide_eq_false hc5), if_neg (of_decide_eq_false hc10)])) trivial
  ·skip
   refine .skip ?_
   show Ev _ _ _ _ _
   refine .seq ?_
   refine .region ?_
   refine .q (op_fieldAddr (m := 31) Tryd.underlying24 rfl (by kernel_rfl) rfl) trivial rfl ?_
   refine .as (.ptr 1000 0) rfl ?_
   refine .q (ap_slice_arr_hi (h := 32) Tryd.underlying22 inf5.sz rfl rfl (by rw [AV.len, List.length_append, List.length_map, hB]; exact Nat.le_of_ble_eq_true rfl) (by decide) rfl (by decide)) trivial rfl ?_
   refine .q (op_bytes_strR (l := kB) Tryd.underlying34 Tryd.underlying5 Tryd.underlying9 rfl rfl (by decide) hB (by rw [kT_list kB sz 32 hB (by decide), List.take_of_length_le (by omega)])) trivial rfl ?_
   refine .q (op_assign rfl) trivial rfl ?_
   refine .nil ?_
   show Ev _ _ _ _ _
   refine .ret ?_
   show RetOk _ _ _ _ _ _ _
   first
    | exact ret1v rfl (.inl rfl) rfl (congrArg AV.str (by rw [keyT, if_pos (of_decide_eq_true hc5)])) trivial
    | exact ret1v rfl (.inl rfl) rfl (congrArg AV.str (by rw [keyT, if_neg (of_decide_eq_false hc5), if_pos (of_decide_eq_true hc10)])) trivial
    | exact ret1v rfl (.inl rfl) rfl (congrArg AV.str (by rw [keyT, if_neg (of_decide_eq_false hc5), if_neg (of_decide_eq_false hc10)])) trivial
/-- A cipher of a key. -/
def cphA (n : Nat) (key : List UInt8) : AV := ciC bxT ((n + 6 : Nat) : Int) (padL (exL bxT n key) 240)
theorem new_ev (n : Nat) (key : List UInt8) (hn : n = 4 ∨ n = 6 ∨ n = 8) (hkey : key.length = 4 * n) : Meets Tryd.prog 9 [.str key] [] (.tup [.ptr 1000 0, .val .nilIface]) [(1000, some ⟨cphA n key, 50, true⟩)] := by
 rcases hn with h | h | h <;> subst h
 ·exact new16_ev key hkey
 ·exact new24_ev key hkey
 ·exact new32_ev key hkey
def hxD : List UInt8 := [48, 49, 50, 51, 52, 53, 54, 55, 56, 57, 97, 98, 99, 100, 101, 102]
def hxC (s : List UInt8) : Nat → List UInt8
 | 0 => List.replicate (2 * s.length) 0
 | k + 1 => ((hxC s k).set (2 * k) (hxD.getD (s.getD k 0 >>> UInt8.ofNat 4).toNat 0)).set (2 * k + 1) (hxD.getD (s.getD k 0 &&& UInt8.ofNat 15).toNat 0)
theorem length_hxC (s : List UInt8) : ∀ k, (hxC s k).length = 2 * s.length
 | 0 => List.length_replicate ..
 | k + 1 => by rw [hxC, List.length_set, List.length_set, length_hxC s k]
theorem shr4_lt (b : UInt8) : (b >>> UInt8.ofNat 4).toNat < hxD.length := by
 show _ < 16
 rw [UInt8.toNat_shiftRight]
 show b.toNat >>> 4 < 16
 rw [Nat.shiftRight_eq_div_pow]
 have := b.toNat_lt
 omega
theorem and15_lt (b : UInt8) : (b &&& UInt8.ofNat 15).toNat < hxD.length := by
 show _ < 16
 rw [UInt8.toNat_and]
 exact Nat.lt_of_le_of_lt Nat.and_le_right (by decide)
set_option maxRecDepth 100000 in
theorem hexA_ev (s : List UInt8) (hs : s.length ≤ 100000) : Meets Tryd.prog 18 [.str s] [] (.str (hxC s s.length)) [] := by
 refine meets_of_ev (nt := 36) Tryd.func18 rfl rfl (Nat.le_of_ble_eq_true rfl) ?_
 refine .seq ?_
 refine .region ?_
 refine .q (op_assign rfl) trivial rfl ?_
 refine .nil ?_
 show Ev _ _ _ _ _
 refine .seq ?_
 refine .region ?_
 refine .q (op_move rfl) trivial rfl ?_
 refine .q (op_len_str Tryd.underlying9 rfl) trivial rfl ?_
 refine .q (op_mulI rfl rfl ⟨by omega, by omega⟩) trivial rfl ?_
 refine .a (ap_make (n := 2 * s.length) (c := .aggB (List.replicate (2 * s.length) 0)) Tryd.underlying34 inf5 rfl rfl (by omega) (by omega) (by omega) (rel_zero5) rfl ((by simp [AV.list, AV.parts]))) trivial rfl ?_
 refine .q (op_assign rfl) trivial rfl ?_
 refine .nil ?_
 show Ev _ _ _ _ _
 refine .seq ?_
 refine .seq ?_
 refine .region ?_
 refine .q (op_move rfl) trivial rfl ?_
 refine .q (op_len_str Tryd.underlying9 rfl) trivial rfl ?_
 refine .q (op_move rfl) trivial rfl ?_
 refine .nil ?_
 show Ev _ _ _ _ _
 refine .block ?_
 refine Ev.loop (ι := { j : Nat // j ≤ s.length }) (fun j => ⟨[(0, .str s), (10, .i64 (s.length : Int)), (3, .sl 1000 0 (2 * s.length) 1), (11, .i64 ((j.1 : Nat) : Int))], [(1000, some ⟨.aggB (hxC s j.1), 5, true⟩)], 1008⟩) (fun j => s.length - j.1) ⟨0, Nat.zero_le _⟩ (StLe.mk [(1000, 1000)] rfl rfl ⟨⟨_, rfl, by first | rfl | (simp only [AV.ren]; congr 1 <;> omega), rfl⟩, ⟨_, rfl, by first | rfl | (simp only [AV.ren]; congr 1 <;> omega), rfl⟩, ⟨_, rfl, by first | rfl | (simp only [AV.ren]; congr 1 <;> omega), rfl⟩, ⟨_, rfl, by first | rfl | (simp only [AV.ren]; congr 1 <;> omega), rfl⟩, trivial⟩ ⟨⟨_, _, rfl, rfl, by (simp only [AV.ren]; rfl), rfl, id, rfl⟩, trivial⟩) ?_
 rintro ⟨j, hj⟩
 dsimp only
 have hl := length_hxC s j
 have h16 := shr4_lt (s.getD j 0)
 have h17 := and15_lt (s.getD j 0)
 refine .seq ?_
 refine .region ?_
 refine .q (op_cmpI rfl rfl rfl) trivial rfl ?_
 refine .nil ?_
 show Ev _ _ _ _ _
 refine .seq ?_
 refine .cond rfl (fun hc12 => ?_) (fun hc12 => ?_)
 ·simp only [decide_eq_true_eq] at hc12
  refine .skip ?_
  show Ev _ _ _ _ _
  refine .seq ?_
  refine .block ?_
  refine .seq ?_
  refine .region ?_
  refine .q (op_move rfl) trivial rfl ?_
  refine .q (op_assign rfl) trivial rfl ?_
  refine .nil ?_
  show Ev _ _ _ _ _
  refine .seq ?_
  refine .region ?_
  refine .q (op_move rfl) trivial rfl ?_
  refine .q (op_move rfl) trivial rfl ?_
  refine .q (op_mulI rfl rfl ⟨by omega, by omega⟩) trivial rfl ?_
  refine .q (op_move rfl) trivial rfl ?_
  refine .q (op_move rfl) trivial rfl ?_
  refine .q (op_index_str Tryd.underlying9 rfl rfl rfl (by first | omega | (simp only [AV.len]; omega) | (simp only [AV.len, List.length_set]; omega) | assumption | (simp [AV.len]; done))) trivial rfl ?_
  refine .q (op_shr8 (n := 4) rfl rfl rfl (by decide)) trivial rfl ?_
  refine .q (op_index_str8 (s := hxD) Tryd.underlying9 rfl rfl h16) trivial rfl ?_
  refine .q (ap_idx0 Tryd.underlying34 inf5.sz rfl rfl (i := 2 * j) (by omega) (by omega)) trivial rfl ?_
  refine .w (op_store inf5.sz rfl rfl rfl rfl rfl (by show _ < List.length _; rw [hl]; omega)) trivial rfl ?_
  refine .nil ?_
  show Ev _ _ _ _ _
  refine .region ?_
  refine .q (op_move rfl) trivial rfl ?_
  refine .q (op_move rfl) trivial rfl ?_
  refine .q (op_mulI rfl rfl ⟨by omega, by omega⟩) trivial rfl ?_
  refine .q (op_addI rfl rfl ⟨by omega, by omega⟩) trivial rfl ?_
  refine .q (op_move rfl) trivial rfl ?_
  refine .q (op_move rfl) trivial rfl ?_
  refine .q (op_index_str Tryd.underlying9 rfl rfl rfl (by first | omega | (simp only [AV.len]; omega) | (simp only [AV.len, List.length_set]; omega) | assumption | (simp [AV.len]; done))) trivial rfl ?_
  refine .q (op_bin8 rfl rfl rfl) trivial rfl ?_
  refine .q (op_index_str8 (s := hxD) Tryd.underlying9 rfl rfl h17) trivial rfl ?_
  refine .q (ap_idx0 Tryd.underlying34 inf5.sz rfl rfl (i := 2 * j + 1) (by omega) (by omega)) trivial rfl ?_
  refine .w (op_store inf5.sz rfl rfl rfl rfl rfl (by show _ < List.length _; rw [List.length_set, hl]; omega)) trivial rfl ?_
  refine .nil ?_
  show Ev _ _ _ _ _
  refine .region ?_
  refine .q (op_addI rfl rfl ⟨by omega, by omega⟩) trivial rfl ?_
  refine .q (op_move rfl) trivial rfl ?_
  refine .nil ?_
  exact ⟨⟨j + 1, by omega⟩, by show s.length - (j + 1) < s.length - j; omega, StLe.mk [(1000, 1000)] rfl rfl ⟨⟨_, rfl, by first | rfl | (simp only [AV.ren]; congr 1 <;> omega), rfl⟩, ⟨_, rfl, by first | rfl | (simp only [AV.ren]; congr 1 <;> omega), rfl⟩, ⟨_, rfl, by first | rfl | (simp only [AV.ren]; congr 1 <;> omega), rfl⟩, ⟨_, rfl, by first | rfl | (simp only [AV.ren]; congr 1 <;> omega), rfl⟩, trivial⟩ ⟨⟨_, _, rfl, rfl, by (simp only [AV.ren]; rfl), rfl, id, rfl⟩, trivial⟩⟩
 ·simp only [decide_eq_false_iff_not] at hc12
  refine .exit ?_
  show Ev _ _ _ _ _
  have ej : j = s.length := by omega
  refine Ev.weak (st2 := ⟨[(0, .str s), (10, .i64 (s.length : Int)), (3, .sl 1000 0 (2 * s.length) 1), (11, .i64 (((s.length) : Nat) : Int))], [(1000, some ⟨.aggB (hxC s (s.length)), 5, true⟩)], 1008⟩) (StLe.mk [(1000, 1000)] rfl rfl ⟨⟨_, rfl, by first | (simp only [AV.ren]; done) | (simp only [AV.ren]; rw [ej]; done) | rfl, rfl⟩, ⟨_, rfl, by first | (simp only [AV.ren]; done) | (simp only [AV.ren]; rw [ej]; done) | rfl, rfl⟩, ⟨_, rfl, by first | (simp only [AV.ren]; done) | (simp only [AV.ren]; rw [ej]; done) | rfl, rfl⟩, ⟨_, rfl, by first | (simp only [AV.ren]; done) | (simp only [AV.ren]; rw [ej]; done) | rfl, rfl⟩, trivial⟩ ⟨⟨_, _, rfl, rfl, by (subst ej; rfl), rfl, id, rfl⟩, trivial⟩) ?_
  refine .seq ?_
  refine .region ?_
  refine .q (op_move rfl) trivial rfl ?_
  refine .q (op_bytes_str Tryd.underlying34 Tryd.underlying5 Tryd.underlying9 rfl rfl rfl (by rw [length_hxC]; omega)) trivial rfl ?_
  refine .q (op_assign rfl) trivial rfl ?_
  refine .nil ?_
  show Ev _ _ _ _ _
  refine .ret ?_
  show RetOk _ _ _ _ _ _ _
  exact ret1v rfl (.inl rfl) rfl (congrArg AV.str (by rw [List.drop_zero, List.take_of_length_le (by rw [length_hxC]; omega)])) trivial
end Go.Proofs.YtdpdmgbdipokdaaDoor
namespace Go.Proofs.YtdpdmgbdipokdaaDoor
open Go.RowKit
theorem ren_ca {n : Nat} {key : List UInt8} (g : Nat → Nat) : (cphA n key).ren g = cphA n key := ren_ci g
theorem names_ca {n : Nat} {key : List UInt8} : (cphA n key).names = [] := names_ci
theorem nmC_ca {n : Nat} {key : List UInt8} (L : List (Nat × Nat)) : nmOkC L (cphA n key).names = true := by rw [names_ca]; rfl
theorem nmF_ca {n : Nat} {key : List UInt8} (L N : List (Nat × Nat)) : nmOkF L N (cphA n key).names = true := by rw [names_ca]; rfl
theorem length_pad (n : Nat) (key : List UInt8) (hkey : key.length = 4 * n) (hn : 4 ≤ n ∧ n ≤ 8) : (padL (exL bxT n key) 240).length = 240 := length_padL _ _ (by rw [length_exL bxT n key hkey]; omega)
theorem blk_padK (n : Nat) (key b : List UInt8) (hkey : key.length = 4 * n) : blkL bxT (padL (exL bxT n key) 240) (n + 6) b = blkL bxT (exL bxT n key) (n + 6) b :=
  blkN_pad bxT _ 240 (n + 6) b (by rw [length_exL bxT n key hkey]; omega) (n + 6) (Nat.le_refl _)
theorem nine {n : Nat} (h : n = 4 ∨ n = 6 ∨ n = 8) : 4 ≤ n ∧ n ≤ 8 := by omega
set_option maxRecDepth 100000 in
theorem keyZ_eq : rgL 16 (fun i => ofI8 (i : Int)) = keyZ := by kernel_rfl
theorem blkZ_eq0 : rgL 16 (fun i => ofI8 ((i : Int) * 17)) = blkZ := by kernel_rfl
theorem blkZ_eq : mpU (fun i => ofI8 ((i : Int) * 17)) (List.replicate 16 (0 : UInt8)) 16 = blkZ := by rw [mpU_all _ _ 16 (List.length_replicate ..), blkZ_eq0]
theorem hkeyZ : keyZ.length = 4 * 4 := rfl
theorem hex_Z : hxC outZ 16 = [54, 57, 99, 52, 101, 48, 100, 56, 54, 97, 55, 98, 48, 52, 51, 48, 100, 56, 99, 100, 98, 55, 56, 48, 55, 48, 98, 52, 99, 53, 53, 97] := by kernel_rfl
theorem bak_Z : bakL bxT (padL (exL bxT 4 keyZ) 240) (4 + 6) outZ = blkZ := by
 rw [← blk_Z, ← blk_padK 4 keyZ blkZ hkeyZ]
 exact bak_blk boxT _ _ _ rfl
set_option maxRecDepth 100000 in
theorem awakeA_ev  : Meets Tryd.prog 8 [] [] (.bool true) [] := by
 refine meets_of_ev (nt := 47) Tryd.func8 rfl rfl (Nat.le_of_ble_eq_true rfl) ?_
 refine .seq ?_
 refine .region ?_
 refine .q (op_assign rfl) trivial rfl ?_
 refine .nil ?_
 show Ev _ _ _ _ _
 refine .seq ?_
 refine .region ?_
 refine .q (op_assign rfl) trivial rfl ?_
 refine .nil ?_
 show Ev _ _ _ _ _
 refine .seq ?_
 refine .region ?_
 refine .a (op_allocRow zero25 rel_zero25 rfl) trivial rfl ?_
 refine .nil ?_
 show Ev _ _ _ _ _
 refine .seq ?_
 refine .seq ?_
 refine .region ?_
 refine .q (op_move rfl) trivial rfl ?_
 refine .nil ?_
 show Ev _ _ _ _ _
 refine .block ?_
 refine Ev.loop (ι := { j : Nat // j ≤ 16 }) (fun j => ⟨[(1, .str (rgL j.1 (fun i => ofI8 (i : Int)))), (2, .ptr 1000 0), (7, .i64 ((j.1 : Nat) : Int))], [(1000, some ⟨.aggB (mpU (fun i => ofI8 ((i : Int) * 17)) (List.replicate 16 (0 : UInt8)) j.1), 25, true⟩)], 1008⟩) (fun j => 16 - j.1) ⟨0, Nat.zero_le _⟩ (StLe.mk [(1000, 1000)] rfl rfl ⟨⟨_, rfl, by (simp only [AV.ren]; rfl), rfl⟩, ⟨_, rfl, by first | rfl | (simp only [AV.ren]; congr 1 <;> omega), rfl⟩, ⟨_, rfl, by first | rfl | (simp only [AV.ren]; congr 1 <;> omega), rfl⟩, trivial⟩ ⟨⟨_, _, rfl, rfl, by (simp only [AV.ren]; rw [mpU_zero]), rfl, id, rfl⟩, trivial⟩) ?_
 rintro ⟨j, hj⟩
 dsimp only
 have hl := length_mpU (fun i => ofI8 ((i : Int) * 17)) (List.replicate 16 (0 : UInt8)) j (by rw [List.length_replicate]; omega)
 rw [List.length_replicate] at hl
 have hr := length_rgL j (fun i => ofI8 (i : Int))
 refine .seq ?_
 refine .region ?_
 refine .q (op_cmpI rfl rfl rfl) trivial rfl ?_
 refine .nil ?_
 show Ev _ _ _ _ _
 refine .seq ?_
 refine .cond rfl (fun hc8 => ?_) (fun hc8 => ?_)
 ·simp only [decide_eq_true_eq] at hc8
  refine .skip ?_
  show Ev _ _ _ _ _
  refine .seq ?_
  refine .block ?_
  refine .seq ?_
  refine .region ?_
  refine .q (op_move rfl) trivial rfl ?_
  refine .q (op_assign rfl) trivial rfl ?_
  refine .nil ?_
  show Ev _ _ _ _ _
  refine .seq ?_
  refine .region ?_
  refine .q (op_move rfl) trivial rfl ?_
  refine .q (op_move rfl) trivial rfl ?_
  refine .q (op_conv Tryd.underlying3 Tryd.underlying5 rfl rfl) trivial rfl ?_
  refine .a (ap_build (us := [_]) (c := .aggB [_]) Tryd.underlying34 inf5 rfl (by decide) (by decide) ⟨rfl, rfl, rfl, trivial⟩ rfl) trivial rfl ?_
  refine .q (op_bytes_str Tryd.underlying34 Tryd.underlying5 Tryd.underlying9 rfl rfl rfl (by show 0 + 1 ≤ 1; decide)) trivial rfl ?_
  refine .q (op_addS rfl rfl (by rw [hr]; show j + ((List.drop 0 [_]).take 1).length ≤ _; simp; omega)) trivial rfl ?_
  refine .q (op_assign rfl) trivial rfl ?_
  refine .nil ?_
  show Ev _ _ _ _ _
  refine .region ?_
  refine .q (op_move rfl) trivial rfl ?_
  refine .q (op_move rfl) trivial rfl ?_
  refine .q (op_mulI rfl rfl ⟨by omega, by omega⟩) trivial rfl ?_
  refine .q (op_conv Tryd.underlying3 Tryd.underlying5 rfl rfl) trivial rfl ?_
  refine .q (ap_idx_arr Tryd.underlying25 inf5.sz rfl rfl rfl (by first | omega | (simp only [AV.len]; omega) | (simp only [AV.len, List.length_set]; omega) | assumption | (simp [AV.len]; done))) trivial rfl ?_
  refine .w (op_store inf5.sz rfl rfl rfl rfl rfl (by first | omega | (simp only [AV.len, hl]; done) | (simp only [AV.len, hl]; omega))) trivial rfl ?_
  refine .nil ?_
  show Ev _ _ _ _ _
  refine .region ?_
  refine .q (op_addI rfl rfl ⟨by omega, by omega⟩) trivial rfl ?_
  refine .q (op_move rfl) trivial rfl ?_
  refine .nil ?_
  exact ⟨⟨j + 1, by omega⟩, by show 16 - (j + 1) < 16 - j; omega, StLe.mk [(1000, 1000)] rfl rfl ⟨⟨_, rfl, by (simp only [AV.ren]; rw [rgL_succ]; rfl), rfl⟩, ⟨_, rfl, by first | rfl | (simp only [AV.ren]; congr 1 <;> omega), rfl⟩, ⟨_, rfl, by first | rfl | (simp only [AV.ren]; congr 1 <;> omega), rfl⟩, trivial⟩ ⟨⟨_, _, rfl, rfl, by (simp only [AV.ren]; rw [mpU_set _ _ _ _ (by rw [List.length_replicate]; omega) rfl]), rfl, id, rfl⟩, trivial⟩⟩
 ·simp only [decide_eq_false_iff_not] at hc8
  refine .exit ?_
  show Ev _ _ _ _ _
  have ej : j = 16 := by omega
  refine Ev.weak (st2 := ⟨[(1, .str (rgL (16) (fun i => ofI8 (i : Int)))), (2, .ptr 1000 0), (7, .i64 (((16) : Nat) : Int))], [(1000, some ⟨.aggB (mpU (fun i => ofI8 ((i : Int) * 17)) (List.replicate 16 (0 : UInt8)) (16)), 25, true⟩)], 1008⟩) (StLe.mk [(1000, 1000)] rfl rfl ⟨⟨_, rfl, by (subst ej; exact congrArg AV.str keyZ_eq), rfl⟩, ⟨_, rfl, by first | (simp only [AV.ren]; done) | (simp only [AV.ren]; rw [ej]; done) | rfl, rfl⟩, ⟨_, rfl, by first | (simp only [AV.ren]; done) | (simp only [AV.ren]; rw [ej]; done) | rfl, rfl⟩, trivial⟩ ⟨⟨_, _, rfl, rfl, by (subst ej; exact congrArg AV.aggB blkZ_eq), rfl, id, rfl⟩, trivial⟩) ?_
  refine .seq ?_
  refine .region ?_
  refine .q (op_move rfl) trivial rfl ?_
  refine .a (op_call (U := [(1008, some ⟨cphA 4 keyZ, 50, true⟩)]) [] [(1008, 1000)] (new_ev 4 keyZ (.inl rfl) hkeyZ) Tryd.func9 (by kernel_rfl) rfl rfl rfl (⟨⟨_, rfl, rfl, rfl⟩, trivial⟩) (trivial) (⟨⟨1000, _, rfl, congrArg (fun c => (⟨c, _, _⟩ : ABlk)) (ren_ca _).symm, rfl, nmF_ca _ _, .inl rfl⟩, trivial⟩) (trivial) rfl) trivial rfl ?_
  refine .q (op_move rfl) trivial rfl ?_
  refine .q (op_extract rfl rfl) trivial rfl ?_
  refine .q (op_extract rfl rfl) trivial rfl ?_
  refine .q (op_assign rfl) trivial rfl ?_
  refine .q (op_assign rfl) trivial rfl ?_
  refine .nil ?_
  show Ev _ _ _ _ _
  refine .seq ?_
  refine .seq ?_
  refine .region ?_
  refine .q (op_move rfl) trivial rfl ?_
  refine .q (op_eqPtrNil Tryd.underlying27 rfl rfl rfl) trivial rfl ?_
  refine .q (op_move rfl) trivial rfl ?_
  refine .know (b' := false) (rfl) ?_
  refine .q (op_move rfl) ⟨_, rfl, rfl⟩ rfl ?_
  refine .q (op_eqNilNil Tryd.underlying29 rfl rfl) ⟨_, rfl, rfl⟩ rfl ?_
  refine .q (op_pick_false rfl rfl rfl) trivial rfl ?_
  refine .nil ?_
  show Ev _ _ _ _ _
  refine .cond_false rfl (rfl) ?_
  refine .skip ?_
  show Ev _ _ _ _ _
  refine .seq ?_
  refine .region ?_
  refine .q (op_move rfl) trivial rfl ?_
  refine .q (op_loadRow Tryd.underlying25 rfl sz25 rfl rfl rfl (rfl)) trivial rfl ?_
  refine .q (op_call (U := []) [(500, 1008)] [] (block_ev bxT (padL (exL bxT 4 keyZ) 240) (4 + 6) 50 length_bxT (length_pad 4 keyZ hkeyZ (by decide)) (by decide) blkZ rfl) Tryd.func11 (by kernel_rfl) rfl rfl rfl (⟨⟨_, rfl, rfl, rfl⟩, ⟨_, rfl, rfl, rfl⟩, trivial⟩) (⟨⟨_, _, rfl, rfl, ren_ca _, rfl, (fun h => by cases h), nmC_ca _⟩, trivial⟩) (trivial) (⟨(fun h => by cases h), trivial⟩) rfl) trivial rfl ?_
  refine .as (.aggB outZ) (congrArg AV.aggB ((blk_padK 4 keyZ blkZ hkeyZ).trans blk_Z)) ?_
  refine .a (op_allocRow zero25 rel_zero25 rfl) trivial rfl ?_
  refine .w (op_storeRow sz25 rfl rfl rfl rfl rfl (by first | rfl | (show List.length _ = 16; rfl)) (by first | rfl | (show List.length _ = 16; rfl))) trivial rfl ?_
  refine .nil ?_
  show Ev _ _ _ _ _
  refine .seq ?_
  refine .drawn [[], [0], [0, 1], [0, 1, 2], [0, 1, 2, 3], [0, 1, 2, 3, 4], [0, 1, 2, 3, 4], [0, 1, 2, 3, 4, 5, 6], [0, 1, 2, 3, 4], [0, 1, 2, 3, 4, 5, 6, 7, 8], [0, 1, 2, 3, 4, 5, 6, 7, 8, 9], [0, 1, 2, 3, 4, 5, 6, 7, 8, 9, 10]] [0, 1, 2, 6, 7, 8] [] (by kernel_rfl) (by kernel_rfl) rfl ?_
  show DK _ [0, 1, 2, 3, 4, 5, 6, 7, 8, 9, 10, 11] _ _ _
  refine .q rfl (op_slice_arr (l := 0) (h := 16) Tryd.underlying25 inf5.sz rfl rfl (by decide) (by decide) rfl rfl (by decide) (by decide)) trivial ?_
  refine .q rfl (op_bytes_str Tryd.underlying34 Tryd.underlying5 Tryd.underlying9 rfl rfl rfl (by decide)) trivial ?_
  refine .as (.str outZ) (rfl) ?_
  refine .q rfl (op_call (U := []) [] [] (hexA_ev outZ (by decide)) Tryd.func18 (by kernel_rfl) rfl rfl rfl (⟨⟨_, rfl, rfl, rfl⟩, trivial⟩) (trivial) (trivial) (trivial) rfl) trivial ?_
  refine .q rfl (op_eqS rfl rfl rfl) trivial ?_
  refine .as (.bool true) (by show AV.bool (hxC outZ 16 == _) = _; rw [hex_Z]; rfl) ?_
  refine .q rfl (op_move rfl) trivial ?_
  refine .know (b' := true) (rfl) ?_
  refine .q rfl (op_move rfl) ⟨_, rfl, rfl⟩ ?_
  refine .q rfl (op_loadRow Tryd.underlying25 rfl sz25 rfl rfl rfl (rfl)) ⟨_, rfl, rfl⟩ ?_
  refine .q rfl (op_call (U := []) [(500, 1008)] [] (back_ev bxT (padL (exL bxT 4 keyZ) 240) (4 + 6) 50 length_bxT (length_pad 4 keyZ hkeyZ (by decide)) (by decide) outZ rfl) Tryd.func13 (by kernel_rfl) rfl rfl rfl (⟨⟨_, rfl, rfl, rfl⟩, ⟨_, rfl, rfl, rfl⟩, trivial⟩) (⟨⟨_, _, rfl, rfl, ren_ca _, rfl, (fun h => by cases h), nmC_ca _⟩, trivial⟩) (trivial) (⟨(fun h => by cases h), trivial⟩) rfl) ⟨_, rfl, rfl⟩ ?_
  refine .as (.aggB blkZ) (congrArg AV.aggB bak_Z) ?_
  refine .q rfl (op_loadRow Tryd.underlying25 rfl sz25 rfl rfl rfl (rfl)) ⟨_, rfl, rfl⟩ ?_
  refine .q rfl (op_eqRow8 (n := 16) (by kernel_rfl) Tryd.underlying25 Tryd.underlying5 inf5.sz rfl rfl (rfl) (rfl)) ⟨_, rfl, rfl⟩ ?_
  refine .q rfl (op_pick_true rfl rfl rfl) trivial ?_
  refine .q rfl (op_assign rfl) trivial ?_
  refine .nil ?_
  show Ev _ _ _ _ _
  refine .ret ?_
  show RetOk _ _ _ _ _ _ _
  exact ret1v rfl (.inl rfl) rfl rfl trivial
end Go.Proofs.YtdpdmgbdipokdaaDoor
