/-
  Texts of this claim.
-/
import Derived.Test.YtaelhapmikijnaaGreatDoorGY
import Derived.Test.YtaelhapmikijnaaGreatDoorGK1
import Derived.Test.YtaelhapmikijnaaGreatDoorGK5
import Derived.Test.YtaelhapmikijnaaGreatDoorGK2
import Derived.Test.YtaelhapmikijnaaGreatDoorGE
import Derived.Test.YtaelhapmikijnaaGreatDoorGE2
import Derived.Test.YtaelhapmikijnaaGreatDoorGD
namespace Go.Proofs.YtaelhapmikijnaaGreatDoor
open Go.RowKit
theorem key_list {X : List UInt8} {n : Nat} (hl : X.length = n) : (AV.aggB X).list = (AV.aggB (List.replicate n 0)).list.take 0 ++ (X.map AV.u8).take n ++ (AV.aggB (List.replicate n 0)).list.drop (0 + n) := by
  show X.map AV.u8 = ((List.replicate n (0 : UInt8)).map AV.u8).take 0 ++ (X.map AV.u8).take n ++ ((List.replicate n (0 : UInt8)).map AV.u8).drop (0 + n)
  rw [show (X.map AV.u8).take n = X.map AV.u8 from List.take_of_length_le (by simp; omega)]
  simp
def algB : List UInt8 := [115, 115, 104, 45, 101, 100, 50, 53, 53, 49, 57]
def unA (s : List UInt8) : DI × List UInt8 := textD ⟨s, 0⟩ (s.length : Int)
def unB (s : List UInt8) : DI × List UInt8 := textD (unA s).1 (s.length : Int)
def unE (s : List UInt8) : Nat := (endD (unB s).1).e
def unbD (s : List UInt8) (size wrong : Nat) : List UInt8 × Nat := if unE s ≠ 0 then ([], unE s) else if (unA s).2 = algB ∧ (unB s).2.length = size then ((unB s).2, 0) else ([], wrong)
theorem unbD_err {s : List UInt8} {size wrong : Nat} (h : unE s ≠ 0) : unbD s size wrong = ([], unE s) := if_pos h
theorem unbD_ok {s : List UInt8} {size wrong : Nat} (h : unE s = 0) (h2 : (unA s).2 = algB ∧ (unB s).2.length = size) : unbD s size wrong = ((unB s).2, 0) := (if_neg (fun h' => h' h)).trans (if_pos h2)
theorem unbD_no {s : List UInt8} {size wrong : Nat} (h : unE s = 0) (h2 : ¬ ((unA s).2 = algB ∧ (unB s).2.length = size)) : unbD s size wrong = ([], wrong) := (if_neg (fun h' => h' h)).trans (if_neg h2)
theorem unb_len {s : List UInt8} {size wrong : Nat} (hw : wrong ≠ 0) (h : (unbD s size wrong).2 = 0) : (unbD s size wrong).1.length = size := by
  by_cases h1 : unE s = 0
  · by_cases h2 : (unA s).2 = algB ∧ (unB s).2.length = size
    · rw [unbD_ok h1 h2]; exact h2.2
    · rw [unbD_no h1 h2] at h; exact absurd h hw
  · rw [unbD_err h1] at h; exact absurd h h1
theorem unb_nil {s : List UInt8} {size wrong : Nat} (h : (unbD s size wrong).2 ≠ 0) : (unbD s size wrong).1 = [] := by
  by_cases h1 : unE s = 0
  · by_cases h2 : (unA s).2 = algB ∧ (unB s).2.length = size
    · rw [unbD_ok h1 h2] at h; exact absurd rfl h
    · rw [unbD_no h1 h2]
  · rw [unbD_err h1]
def okE (e : Nat) : Prop := e = 0 ∨ e = 2 ∨ e = 4
theorem rawD_okE {i : DI} (h : okE i.e) (n : Nat) : okE (rawD i n).1.e := by
  unfold rawD failD
  split
  · exact h
  · rcases h with h | h | h <;> rw [h] <;> simp [orE, okE]
theorem textD_okE {i : DI} (h : okE i.e) (m : Int) : okE (textD i m).1.e := by
  have h4 : okE (u32D i).1.e := rawD_okE h 4
  unfold textD
  split
  · show okE (orE (u32D i).1.e 4)
    rcases h4 with h | h | h <;> rw [h] <;> simp [orE, okE]
  · exact rawD_okE h4 _
theorem unE_okE (s : List UInt8) : unE s = 0 ∨ unE s = 2 ∨ unE s = 3 ∨ unE s = 4 := by
  have h : okE (unB s).1.e := textD_okE (textD_okE (.inl rfl) _) _
  unfold unE endD failD
  split
  · rcases h with h | h | h <;> omega
  · show orE _ 3 = 0 ∨ _
    rcases h with h | h | h <;> rw [h] <;> simp [orE]
theorem unbD_code (s : List UInt8) (size wrong : Nat) : (unbD s size wrong).2 = 0 ∨ (unbD s size wrong).2 = 2 ∨ (unbD s size wrong).2 = 3 ∨ (unbD s size wrong).2 = 4 ∨ (unbD s size wrong).2 = wrong := by
  have h := unE_okE s
  by_cases h1 : unE s = 0
  · by_cases h2 : (unA s).2 = algB ∧ (unB s).2.length = size
    · rw [unbD_ok h1 h2]; exact .inl rfl
    · rw [unbD_no h1 h2]; simp
  · rw [unbD_err h1]; show unE s = 0 ∨ _; omega
/-- A blob. -/
def blobB (x : List UInt8) : List UInt8 := textB algB ++ textB x
theorem blobB_len (x : List UInt8) : (blobB x).length = 19 + x.length := by unfold blobB; rw [List.length_append, length_textB, length_textB]; simp [algB]; omega
theorem unbD_blob (x : List UInt8) (size wrong : Nat) (hx : x.length = size) (hs : size ≤ 1000) : unbD (blobB x) size wrong = (x, 0) := by
  have hl := blobB_len x
  have ha : unA (blobB x) = (⟨textB x, 0⟩, algB) := by
    unfold unA
    rw [hl]
    unfold blobB
    exact textD_app algB (textB x) 0 _ (by simp [algB]; omega) (by simp [algB])
  have hb : unB (blobB x) = (⟨[], 0⟩, x) := by
    unfold unB
    rw [ha, hl]
    have := textD_app x [] 0 ((19 + x.length : Nat) : Int) (by omega) (by omega)
    rwa [List.append_nil] at this
  refine (unbD_ok ?_ ⟨?_, ?_⟩).trans ?_
  · unfold unE; rw [hb]; rfl
  · rw [ha]
  · rw [hb]; exact hx
  · rw [hb]
theorem codeF_ev (n : Nat) (hn : n + 1 = 2 ∨ n + 1 = 3 ∨ n + 1 = 4 ∨ n + 1 = 10 ∨ n + 1 = 11) (eo : Nat → Nat × Nat) (hd : ∀ i j, i < 20 → j < 20 → i ≠ j → eo i ≠ eo j) (ws : List UInt8) (te : Nat) : Meets Tryz.prog 12 [.ifc 63 (.ptr 500 0)] [(2, some ⟨.agg [.err 165 (1) (offE eo (1))], errT, false⟩), (3, some ⟨.agg [.err 165 (2) (offE eo (2))], errT, false⟩), (4, some ⟨.agg [.err 165 (3) (offE eo (3))], errT, false⟩), (5, some ⟨.agg [.err 165 (4) (offE eo (4))], errT, false⟩), (6, some ⟨.agg [.err 165 (5) (offE eo (5))], errT, false⟩), (7, some ⟨.agg [.err 165 (6) (offE eo (6))], errT, false⟩), (8, some ⟨.agg [.err 165 (7) (offE eo (7))], errT, false⟩), (9, some ⟨.agg [.err 165 (8) (offE eo (8))], errT, false⟩), (10, some ⟨.agg [.err 165 (9) (offE eo (9))], errT, false⟩), (0, some ⟨.agg [.err 165 (10) (offE eo (10))], errT, false⟩), (1, some ⟨.agg [.err 165 (11) (offE eo (11))], errT, false⟩), (11, some ⟨.agg [.err 165 (12) (offE eo (12))], errT, false⟩), (12, some ⟨.agg [.err 165 (13) (offE eo (13))], errT, false⟩), (13, some ⟨.agg [.err 165 (14) (offE eo (14))], errT, false⟩), (14, some ⟨.agg [.err 165 (15) (offE eo (15))], errT, false⟩), (15, some ⟨.agg [.err 165 (16) (offE eo (16))], errT, false⟩), (16, some ⟨.agg [.err 165 (17) (offE eo (17))], errT, false⟩), (17, some ⟨.agg [.err 165 (18) (offE eo (18))], errT, false⟩), (18, some ⟨.agg [.err 165 (19) (offE eo (19))], errT, false⟩), (19, some ⟨.agg [.err 165 (20) (offE eo (20))], errT, false⟩), (401, some ⟨.agg [], errT, false⟩), (402, some ⟨.agg [], errT, false⟩), (403, some ⟨.agg [], errT, false⟩), (404, some ⟨.agg [], errT, false⟩), (405, some ⟨.agg [], errT, false⟩), (406, some ⟨.agg [], errT, false⟩), (407, some ⟨.agg [], errT, false⟩), (408, some ⟨.agg [], errT, false⟩), (409, some ⟨.agg [], errT, false⟩), (410, some ⟨.agg [], errT, false⟩), (411, some ⟨.agg [], errT, false⟩), (412, some ⟨.agg [], errT, false⟩), (413, some ⟨.agg [], errT, false⟩), (414, some ⟨.agg [], errT, false⟩), (415, some ⟨.agg [], errT, false⟩), (416, some ⟨.agg [], errT, false⟩), (417, some ⟨.agg [], errT, false⟩), (418, some ⟨.agg [], errT, false⟩), (419, some ⟨.agg [], errT, false⟩), (420, some ⟨.agg [], errT, false⟩), (500, some ⟨.agg [.str ws, .err 165 (n + 1) (offE eo (n + 1))], te, false⟩)] (.i64 ((n + 1 : Nat) : Int)) [] := by
  rcases hn with h | h | h | h | h <;> obtain rfl : n = _ := Nat.succ.inj h
  · exact codeF_2 eo hd ws te
  · exact codeF_3 eo hd ws te
  · exact codeF_4 eo hd ws te
  · exact codeF_10 eo hd ws te
  · exact codeF_11 eo hd ws te
set_option maxRecDepth 100000 in
theorem wrapK_ev (ws : List UInt8) (x : Nat) (eo : Nat → Nat × Nat) : Meets Tryz.prog 20 [.str ws, .err 165 (x + 1) (offE eo (x + 1))] [] (.ifc 63 (.ptr 1000 0)) [(1000, some ⟨.agg [.str ws, .err 165 (x + 1) (offE eo (x + 1))], 67, true⟩)] := by
 refine meets_of_ev (nt := 12) Tryz.func20 rfl rfl (Nat.le_of_ble_eq_true rfl) ?_
 refine .seq ?_
 refine .region ?_
 refine .q (op_assign rfl) trivial rfl ?_
 refine .nil ?_
 show Ev _ _ _ _ _
 refine .seq ?_
 refine .seq ?_
 refine .region ?_
 refine .q (op_move rfl) trivial rfl ?_
 refine .q (op_eqErrNil (e := x + 1) Tryz.underlying30 rfl rfl) trivial rfl ?_
 refine .nil ?_
 show Ev _ _ _ _ _
 refine .cond_false rfl (rfl) ?_
 refine .skip ?_
 show Ev _ _ _ _ _
 refine .seq ?_
 refine .region ?_
 refine .q (op_move rfl) trivial rfl ?_
 refine .q (op_move rfl) trivial rfl ?_
 refine .q (op_buildS (r := .agg _) Tryz.underlying67 rfl zero67 rel_zero67 rfl rfl rfl rfl) trivial rfl ?_
 refine .a (op_boxRow rfl rfl) trivial rfl ?_
 refine .q (op_makeIface (by kernel_rfl) rfl) trivial rfl ?_
 refine .q (op_assign rfl) trivial rfl ?_
 refine .nil ?_
 show Ev _ _ _ _ _
 refine .ret ?_
 show RetOk _ _ _ _ _ _ _
 exact ret1v rfl (.inl rfl) rfl rfl ⟨rfl, trivial⟩
set_option maxRecDepth 100000 in
theorem wrap0_ev (ws : List UInt8) (eo : Nat → Nat × Nat) : Meets Tryz.prog 20 [.str ws, .err 165 (0) (offE eo (0))] [] (.val .nilIface) [] := by
 refine meets_of_ev (nt := 12) Tryz.func20 rfl rfl (Nat.le_of_ble_eq_true rfl) ?_
 refine .seq ?_
 refine .region ?_
 refine .q (op_assign rfl) trivial rfl ?_
 refine .nil ?_
 show Ev _ _ _ _ _
 refine .seq ?_
 refine .seq ?_
 refine .region ?_
 refine .q (op_move rfl) trivial rfl ?_
 refine .q (op_eqErrNil (e := 0) Tryz.underlying30 rfl rfl) trivial rfl ?_
 refine .nil ?_
 show Ev _ _ _ _ _
 refine .cond_true rfl (rfl) ?_
 refine .seq ?_
 refine .region ?_
 refine .q (op_assign rfl) trivial rfl ?_
 refine .nil ?_
 show Ev _ _ _ _ _
 refine .ret ?_
 show RetOk _ _ _ _ _ _ _
 exact ret1v rfl (.inl rfl) rfl rfl trivial
set_option maxRecDepth 100000 in
theorem blob_ev (x : List UInt8) (hx : x.length ≤ 1000) : Meets Tryz.prog 18 [.str x] [] (.str (blobB x)) [] := by
 have hA : algB.length = 11 := rfl
 refine meets_of_ev (nt := 8) Tryz.func18 rfl rfl (Nat.le_of_ble_eq_true rfl) ?_
 refine .seq ?_
 refine .region ?_
 refine .q (op_assign rfl) trivial rfl ?_
 refine .nil ?_
 show Ev _ _ _ _ _
 refine .seq ?_
 refine .region ?_
 refine .a (op_allocRow zero80 rel_zero80 rfl) trivial rfl ?_
 refine .nil ?_
 show Ev _ _ _ _ _
 refine .seq ?_
 refine .region ?_
 refine .a (op_call (U := [(1000, some ⟨.agg [.ptr 1000 0, .sl 1008 0 ((4 + algB.length)) 1], 80, true⟩), (1008, some ⟨.aggB (textB algB), 5, true⟩)]) [(500, 1000)] [(1008, 1008)] (text0_ev algB (by decide)) Tryz.func35 (by kernel_rfl) rfl rfl rfl (⟨⟨_, rfl, rfl, rfl⟩, ⟨_, rfl, rfl, rfl⟩, trivial⟩) (⟨⟨_, _, rfl, rfl, rfl, rfl, id, rfl⟩, trivial⟩) (⟨⟨500, _, rfl, rfl, rfl, rfl, .inr ⟨rfl, _, rfl, rfl⟩⟩, ⟨1008, _, rfl, rfl, rfl, rfl, .inl rfl⟩, trivial⟩) (⟨(fun _ => ⟨1000, _, rfl, rfl⟩), trivial⟩) rfl) trivial rfl ?_
 refine .q (op_move rfl) trivial rfl ?_
 refine .a (op_call (U := [(1000, some ⟨.agg [.ptr 1000 0, .sl 1016 0 ((4 + algB.length) + (4 + x.length)) 1], 80, true⟩), (1016, some ⟨.aggB ((textB algB) ++ textB x), 5, true⟩), (1008, none)]) [(500, 1000), (501, 1008)] [(1016, 1008)] (text2_ev x (by omega) ((textB algB)) ((4 + algB.length)) (by simp [length_textB, algB]) (by omega)) Tryz.func35 (by kernel_rfl) rfl rfl rfl (⟨⟨_, rfl, rfl, rfl⟩, ⟨_, rfl, rfl, rfl⟩, trivial⟩) (⟨⟨_, _, rfl, rfl, rfl, rfl, id, rfl⟩, ⟨_, _, rfl, rfl, rfl, rfl, id, rfl⟩, trivial⟩) (⟨⟨500, _, rfl, rfl, rfl, rfl, .inr ⟨rfl, _, rfl, rfl⟩⟩, ⟨1008, _, rfl, rfl, rfl, rfl, .inl rfl⟩, trivial⟩) (⟨(fun _ => ⟨1000, _, rfl, rfl⟩), (fun _ => ⟨1008, _, rfl, rfl⟩), trivial⟩) rfl) trivial rfl ?_
 refine .a (op_call (U := [(1016, some ⟨.aggB (((textB algB) ++ textB x)), (frz + 5), false⟩)]) [(500, 1000), (501, 1016)] [] (bytes2_ev (((textB algB) ++ textB x)) ((4 + algB.length) + (4 + x.length)) (by simp [length_textB, algB]) (by simp [algB]; omega) (by simp [algB]; omega)) Tryz.func34 (by kernel_rfl) rfl rfl rfl (⟨⟨_, rfl, rfl, rfl⟩, trivial⟩) (⟨⟨_, _, rfl, rfl, rfl, rfl, (fun h => by cases h), rfl⟩, ⟨_, _, rfl, rfl, rfl, rfl, id, rfl⟩, trivial⟩) (⟨⟨501, _, rfl, rfl, rfl, rfl, .inr ⟨rfl, _, rfl, rfl⟩⟩, trivial⟩) (⟨(fun h => by cases h), (fun _ => ⟨1016, _, rfl, rfl⟩), trivial⟩) rfl) trivial rfl ?_
 refine .q (op_assign rfl) trivial rfl ?_
 refine .nil ?_
 show Ev _ _ _ _ _
 refine .ret ?_
 show RetOk _ _ _ _ _ _ _
 exact ret1v rfl (.inl rfl) rfl rfl trivial
set_option maxRecDepth 100000 in
theorem keyBlob_ev (x : List UInt8) (hx : x.length = 32) : Meets Tryz.prog 6 [.aggB x] [] (.str (blobB x)) [] := by
 refine meets_of_ev (nt := 6) Tryz.func6 rfl rfl (Nat.le_of_ble_eq_true rfl) ?_
 refine .seq ?_
 refine .region ?_
 refine .a (op_boxRow rfl rfl) trivial rfl ?_
 refine .q (op_assign rfl) trivial rfl ?_
 refine .nil ?_
 show Ev _ _ _ _ _
 refine .seq ?_
 refine .region ?_
 refine .q (ap_slice_arr_hi Tryz.underlying22 inf5.sz rfl rfl (by first | omega | (simp only [AV.len]; omega) | (simp only [hx]; decide)) (by decide) rfl (by first | omega | (simp only [AV.len]; omega) | (simp only [hx]; decide))) trivial rfl ?_
 refine .q (op_bytes_str Tryz.underlying26 Tryz.underlying5 Tryz.underlying9 rfl rfl rfl (by first | omega | (simp only [AV.len]; omega) | (simp only [hx]; decide))) trivial rfl ?_
 refine .as (.str x) (congrArg AV.str (by rw [List.drop_zero, List.take_of_length_le (by omega)])) ?_
 refine .q (op_call (U := []) [] [] (blob_ev x (by omega)) Tryz.func18 (by kernel_rfl) rfl rfl rfl (⟨⟨_, rfl, rfl, rfl⟩, trivial⟩) (trivial) (trivial) (trivial) rfl) trivial rfl ?_
 refine .q (op_assign rfl) trivial rfl ?_
 refine .nil ?_
 show Ev _ _ _ _ _
 refine .ret ?_
 show RetOk _ _ _ _ _ _ _
 exact ret1v rfl (.inl rfl) rfl rfl trivial
set_option maxRecDepth 100000 in
theorem signBlob_ev (x : List UInt8) (hx : x.length = 64) : Meets Tryz.prog 7 [.aggB x] [] (.str (blobB x)) [] := by
 refine meets_of_ev (nt := 6) Tryz.func7 rfl rfl (Nat.le_of_ble_eq_true rfl) ?_
 refine .seq ?_
 refine .region ?_
 refine .a (op_boxRow rfl rfl) trivial rfl ?_
 refine .q (op_assign rfl) trivial rfl ?_
 refine .nil ?_
 show Ev _ _ _ _ _
 refine .seq ?_
 refine .region ?_
 refine .q (ap_slice_arr_hi Tryz.underlying25 inf5.sz rfl rfl (by first | omega | (simp only [AV.len]; omega) | (simp only [hx]; decide)) (by decide) rfl (by first | omega | (simp only [AV.len]; omega) | (simp only [hx]; decide))) trivial rfl ?_
 refine .q (op_bytes_str Tryz.underlying26 Tryz.underlying5 Tryz.underlying9 rfl rfl rfl (by first | omega | (simp only [AV.len]; omega) | (simp only [hx]; decide))) trivial rfl ?_
 refine .as (.str x) (congrArg AV.str (by rw [List.drop_zero, List.take_of_length_le (by omega)])) ?_
 refine .q (op_call (U := []) [] [] (blob_ev x (by omega)) Tryz.func18 (by kernel_rfl) rfl rfl rfl (⟨⟨_, rfl, rfl, rfl⟩, trivial⟩) (trivial) (trivial) (trivial) rfl) trivial rfl ?_
 refine .q (op_assign rfl) trivial rfl ?_
 refine .nil ?_
 show Ev _ _ _ _ _
 refine .ret ?_
 show RetOk _ _ _ _ _ _ _
 exact ret1v rfl (.inl rfl) rfl rfl trivial
set_option maxRecDepth 100000 in
theorem unb_err (s : List UInt8) (_hs : s.length ≤ 1000000) (size wrong : Nat) (eo : Nat → Nat × Nat) (h : unE s ≠ 0) : Meets Tryz.prog 19 [.str s, .i64 (size : Int), .err 165 (wrong) (offE eo (wrong))] [(3, some ⟨.agg [.err 165 (2) (offE eo (2))], errT, false⟩), (5, some ⟨.agg [.err 165 (4) (offE eo (4))], errT, false⟩), (4, some ⟨.agg [.err 165 (3) (offE eo (3))], errT, false⟩)] (.tup [.str [], .err 165 (unE s) (offE eo (unE s))]) [] := by
 refine meets_of_ev (nt := 37) Tryz.func19 rfl rfl (Nat.le_of_ble_eq_true rfl) ?_
 refine .seq ?_
 refine .region ?_
 refine .q (op_assign rfl) trivial rfl ?_
 refine .q (op_assign rfl) trivial rfl ?_
 refine .nil ?_
 show Ev _ _ _ _ _
 refine .seq ?_
 refine .region ?_
 refine .q (op_move rfl) trivial rfl ?_
 refine .a (op_call (U := [(1000, some ⟨.agg [.str (DI.mk s 0).r, .err 165 ((DI.mk s 0).e) (offE eo ((DI.mk s 0).e))], 107, true⟩)]) [] [(1000, 1000)] (wof_ev s eo) Tryz.func25 (by kernel_rfl) rfl rfl rfl (⟨⟨_, rfl, rfl, rfl⟩, trivial⟩) (trivial) (⟨⟨1000, _, rfl, rfl, rfl, rfl, .inl rfl⟩, trivial⟩) (trivial) rfl) trivial rfl ?_
 refine .q (op_assign rfl) trivial rfl ?_
 refine .nil ?_
 show Ev _ _ _ _ _
 refine .seq ?_
 refine .region ?_
 refine .q (op_move rfl) trivial rfl ?_
 refine .q (op_move rfl) trivial rfl ?_
 refine .q (op_len_str Tryz.underlying9 rfl) trivial rfl ?_
 refine .a (op_call (U := [(1000, some ⟨.agg [.str ((unA s).1).r, .err 165 (((unA s).1).e) (offE eo (((unA s).1).e))], 107, true⟩)]) [(500, 1000)] [] (itext_ev (DI.mk s 0) (s.length : Int) eo) Tryz.func36 (by kernel_rfl) rfl rfl rfl (⟨⟨_, rfl, rfl, rfl⟩, ⟨_, rfl, rfl, rfl⟩, trivial⟩) (⟨⟨_, _, rfl, rfl, rfl, rfl, id, rfl⟩, ⟨_, _, rfl, rfl, rfl, rfl, (fun h => by cases h), rfl⟩, ⟨_, _, rfl, rfl, rfl, rfl, (fun h => by cases h), rfl⟩, trivial⟩) (⟨⟨500, _, rfl, rfl, rfl, rfl, .inr ⟨rfl, _, rfl, rfl⟩⟩, trivial⟩) (⟨(fun _ => ⟨1000, _, rfl, rfl⟩), (fun h => by cases h), (fun h => by cases h), trivial⟩) rfl) trivial rfl ?_
 refine .q (op_move rfl) trivial rfl ?_
 refine .q (op_move rfl) trivial rfl ?_
 refine .q (op_len_str Tryz.underlying9 rfl) trivial rfl ?_
 refine .a (op_call (U := [(1000, some ⟨.agg [.str ((unB s).1).r, .err 165 (((unB s).1).e) (offE eo (((unB s).1).e))], 107, true⟩)]) [(500, 1000)] [] (itext_ev ((unA s).1) (s.length : Int) eo) Tryz.func36 (by kernel_rfl) rfl rfl rfl (⟨⟨_, rfl, rfl, rfl⟩, ⟨_, rfl, rfl, rfl⟩, trivial⟩) (⟨⟨_, _, rfl, rfl, rfl, rfl, id, rfl⟩, ⟨_, _, rfl, rfl, rfl, rfl, (fun h => by cases h), rfl⟩, ⟨_, _, rfl, rfl, rfl, rfl, (fun h => by cases h), rfl⟩, trivial⟩) (⟨⟨500, _, rfl, rfl, rfl, rfl, .inr ⟨rfl, _, rfl, rfl⟩⟩, trivial⟩) (⟨(fun _ => ⟨1000, _, rfl, rfl⟩), (fun h => by cases h), (fun h => by cases h), trivial⟩) rfl) trivial rfl ?_
 refine .q (op_assign rfl) trivial rfl ?_
 refine .q (op_assign rfl) trivial rfl ?_
 refine .nil ?_
 show Ev _ _ _ _ _
 refine .seq ?_
 refine .seq ?_
 refine .region ?_
 refine .q (op_move rfl) trivial rfl ?_
 refine .a (op_call (U := [(1000, some ⟨.agg [.str (endD (unB s).1).r, .err 165 ((endD (unB s).1).e) (offE eo ((endD (unB s).1).e))], 107, true⟩)]) [(500, 1000)] [] (end_ev ((unB s).1) eo) Tryz.func29 (by kernel_rfl) rfl rfl rfl (⟨⟨_, rfl, rfl, rfl⟩, trivial⟩) (⟨⟨_, _, rfl, rfl, rfl, rfl, id, rfl⟩, ⟨_, _, rfl, rfl, rfl, rfl, (fun h => by cases h), rfl⟩, trivial⟩) (⟨⟨500, _, rfl, rfl, rfl, rfl, .inr ⟨rfl, _, rfl, rfl⟩⟩, trivial⟩) (⟨(fun _ => ⟨1000, _, rfl, rfl⟩), (fun h => by cases h), trivial⟩) rfl) trivial rfl ?_
 refine .q (op_assign rfl) trivial rfl ?_
 refine .nil ?_
 show Ev _ _ _ _ _
 refine .seq ?_
 refine .region ?_
 refine .q (op_move rfl) trivial rfl ?_
 refine .q (op_eqErrNil (e := (endD (unB s).1).e) Tryz.underlying30 rfl rfl) trivial rfl ?_
 refine .nil ?_
 show Ev _ _ _ _ _
 refine .cond_true rfl (bne_iff_ne.2 h) ?_
 refine .seq ?_
 refine .region ?_
 refine .q (op_move rfl) trivial rfl ?_
 refine .q (op_assign rfl) trivial rfl ?_
 refine .q (op_assign rfl) trivial rfl ?_
 refine .nil ?_
 show Ev _ _ _ _ _
 refine .ret ?_
 show RetOk _ _ _ _ _ _ _
 exact ret2v rfl (.inl rfl) rfl rfl rfl rfl trivial
set_option maxRecDepth 100000 in
theorem unb_bad1 (s : List UInt8) (_hs : s.length ≤ 1000000) (size wrong : Nat) (eo : Nat → Nat × Nat) (h : unE s = 0) (h2 : ¬ (unA s).2 = algB) : Meets Tryz.prog 19 [.str s, .i64 (size : Int), .err 165 (wrong) (offE eo (wrong))] [(3, some ⟨.agg [.err 165 (2) (offE eo (2))], errT, false⟩), (5, some ⟨.agg [.err 165 (4) (offE eo (4))], errT, false⟩), (4, some ⟨.agg [.err 165 (3) (offE eo (3))], errT, false⟩)] (.tup [.str [], .err 165 (wrong) (offE eo (wrong))]) [] := by
 refine meets_of_ev (nt := 37) Tryz.func19 rfl rfl (Nat.le_of_ble_eq_true rfl) ?_
 refine .seq ?_
 refine .region ?_
 refine .q (op_assign rfl) trivial rfl ?_
 refine .q (op_assign rfl) trivial rfl ?_
 refine .nil ?_
 show Ev _ _ _ _ _
 refine .seq ?_
 refine .region ?_
 refine .q (op_move rfl) trivial rfl ?_
 refine .a (op_call (U := [(1000, some ⟨.agg [.str (DI.mk s 0).r, .err 165 ((DI.mk s 0).e) (offE eo ((DI.mk s 0).e))], 107, true⟩)]) [] [(1000, 1000)] (wof_ev s eo) Tryz.func25 (by kernel_rfl) rfl rfl rfl (⟨⟨_, rfl, rfl, rfl⟩, trivial⟩) (trivial) (⟨⟨1000, _, rfl, rfl, rfl, rfl, .inl rfl⟩, trivial⟩) (trivial) rfl) trivial rfl ?_
 refine .q (op_assign rfl) trivial rfl ?_
 refine .nil ?_
 show Ev _ _ _ _ _
 refine .seq ?_
 refine .region ?_
 refine .q (op_move rfl) trivial rfl ?_
 refine .q (op_move rfl) trivial rfl ?_
 refine .q (op_len_str Tryz.underlying9 rfl) trivial rfl ?_
 refine .a (op_call (U := [(1000, some ⟨.agg [.str ((unA s).1).r, .err 165 (((unA s).1).e) (offE eo (((unA s).1).e))], 107, true⟩)]) [(500, 1000)] [] (itext_ev (DI.mk s 0) (s.length : Int) eo) Tryz.func36 (by kernel_rfl) rfl rfl rfl (⟨⟨_, rfl, rfl, rfl⟩, ⟨_, rfl, rfl, rfl⟩, trivial⟩) (⟨⟨_, _, rfl, rfl, rfl, rfl, id, rfl⟩, ⟨_, _, rfl, rfl, rfl, rfl, (fun h => by cases h), rfl⟩, ⟨_, _, rfl, rfl, rfl, rfl, (fun h => by cases h), rfl⟩, trivial⟩) (⟨⟨500, _, rfl, rfl, rfl, rfl, .inr ⟨rfl, _, rfl, rfl⟩⟩, trivial⟩) (⟨(fun _ => ⟨1000, _, rfl, rfl⟩), (fun h => by cases h), (fun h => by cases h), trivial⟩) rfl) trivial rfl ?_
 refine .q (op_move rfl) trivial rfl ?_
 refine .q (op_move rfl) trivial rfl ?_
 refine .q (op_len_str Tryz.underlying9 rfl) trivial rfl ?_
 refine .a (op_call (U := [(1000, some ⟨.agg [.str ((unB s).1).r, .err 165 (((unB s).1).e) (offE eo (((unB s).1).e))], 107, true⟩)]) [(500, 1000)] [] (itext_ev ((unA s).1) (s.length : Int) eo) Tryz.func36 (by kernel_rfl) rfl rfl rfl (⟨⟨_, rfl, rfl, rfl⟩, ⟨_, rfl, rfl, rfl⟩, trivial⟩) (⟨⟨_, _, rfl, rfl, rfl, rfl, id, rfl⟩, ⟨_, _, rfl, rfl, rfl, rfl, (fun h => by cases h), rfl⟩, ⟨_, _, rfl, rfl, rfl, rfl, (fun h => by cases h), rfl⟩, trivial⟩) (⟨⟨500, _, rfl, rfl, rfl, rfl, .inr ⟨rfl, _, rfl, rfl⟩⟩, trivial⟩) (⟨(fun _ => ⟨1000, _, rfl, rfl⟩), (fun h => by cases h), (fun h => by cases h), trivial⟩) rfl) trivial rfl ?_
 refine .q (op_assign rfl) trivial rfl ?_
 refine .q (op_assign rfl) trivial rfl ?_
 refine .nil ?_
 show Ev _ _ _ _ _
 refine .seq ?_
 refine .seq ?_
 refine .region ?_
 refine .q (op_move rfl) trivial rfl ?_
 refine .a (op_call (U := [(1000, some ⟨.agg [.str (endD (unB s).1).r, .err 165 ((endD (unB s).1).e) (offE eo ((endD (unB s).1).e))], 107, true⟩)]) [(500, 1000)] [] (end_ev ((unB s).1) eo) Tryz.func29 (by kernel_rfl) rfl rfl rfl (⟨⟨_, rfl, rfl, rfl⟩, trivial⟩) (⟨⟨_, _, rfl, rfl, rfl, rfl, id, rfl⟩, ⟨_, _, rfl, rfl, rfl, rfl, (fun h => by cases h), rfl⟩, trivial⟩) (⟨⟨500, _, rfl, rfl, rfl, rfl, .inr ⟨rfl, _, rfl, rfl⟩⟩, trivial⟩) (⟨(fun _ => ⟨1000, _, rfl, rfl⟩), (fun h => by cases h), trivial⟩) rfl) trivial rfl ?_
 refine .q (op_assign rfl) trivial rfl ?_
 refine .nil ?_
 show Ev _ _ _ _ _
 refine .seq ?_
 refine .region ?_
 refine .q (op_move rfl) trivial rfl ?_
 refine .q (op_eqErrNil (e := (endD (unB s).1).e) Tryz.underlying30 rfl rfl) trivial rfl ?_
 refine .nil ?_
 show Ev _ _ _ _ _
 refine .cond_false rfl (bne_eq_false_iff_eq.2 h) ?_
 refine .skip ?_
 show Ev _ _ _ _ _
 refine .seq ?_
 refine .seq ?_
 refine .region ?_
 refine .q (op_move rfl) trivial rfl ?_
 refine .q (op_eqS rfl rfl rfl) trivial rfl ?_
 refine .q (op_move rfl) trivial rfl ?_
 refine .know (b' := true) (bne_iff_ne.2 h2) ?_
 refine .no ⟨_, rfl, rfl⟩ rfl ?_
 refine .no ⟨_, rfl, rfl⟩ rfl ?_
 refine .no ⟨_, rfl, rfl⟩ rfl ?_
 refine .no ⟨_, rfl, rfl⟩ rfl ?_
 refine .q (op_pick_true rfl rfl rfl) trivial rfl ?_
 refine .nil ?_
 show Ev _ _ _ _ _
 refine .cond_true rfl rfl ?_
 refine .seq ?_
 refine .region ?_
 refine .q (op_move rfl) trivial rfl ?_
 refine .q (op_assign rfl) trivial rfl ?_
 refine .q (op_assign rfl) trivial rfl ?_
 refine .nil ?_
 show Ev _ _ _ _ _
 refine .ret ?_
 show RetOk _ _ _ _ _ _ _
 exact ret2v rfl (.inl rfl) rfl rfl rfl rfl trivial
set_option maxRecDepth 100000 in
theorem unb_bad2 (s : List UInt8) (_hs : s.length ≤ 1000000) (size wrong : Nat) (eo : Nat → Nat × Nat) (h : unE s = 0) (h2 : (unA s).2 = algB) (h3 : ¬ (unB s).2.length = size) : Meets Tryz.prog 19 [.str s, .i64 (size : Int), .err 165 (wrong) (offE eo (wrong))] [(3, some ⟨.agg [.err 165 (2) (offE eo (2))], errT, false⟩), (5, some ⟨.agg [.err 165 (4) (offE eo (4))], errT, false⟩), (4, some ⟨.agg [.err 165 (3) (offE eo (3))], errT, false⟩)] (.tup [.str [], .err 165 (wrong) (offE eo (wrong))]) [] := by
 refine meets_of_ev (nt := 37) Tryz.func19 rfl rfl (Nat.le_of_ble_eq_true rfl) ?_
 refine .seq ?_
 refine .region ?_
 refine .q (op_assign rfl) trivial rfl ?_
 refine .q (op_assign rfl) trivial rfl ?_
 refine .nil ?_
 show Ev _ _ _ _ _
 refine .seq ?_
 refine .region ?_
 refine .q (op_move rfl) trivial rfl ?_
 refine .a (op_call (U := [(1000, some ⟨.agg [.str (DI.mk s 0).r, .err 165 ((DI.mk s 0).e) (offE eo ((DI.mk s 0).e))], 107, true⟩)]) [] [(1000, 1000)] (wof_ev s eo) Tryz.func25 (by kernel_rfl) rfl rfl rfl (⟨⟨_, rfl, rfl, rfl⟩, trivial⟩) (trivial) (⟨⟨1000, _, rfl, rfl, rfl, rfl, .inl rfl⟩, trivial⟩) (trivial) rfl) trivial rfl ?_
 refine .q (op_assign rfl) trivial rfl ?_
 refine .nil ?_
 show Ev _ _ _ _ _
 refine .seq ?_
 refine .region ?_
 refine .q (op_move rfl) trivial rfl ?_
 refine .q (op_move rfl) trivial rfl ?_
 refine .q (op_len_str Tryz.underlying9 rfl) trivial rfl ?_
 refine .a (op_call (U := [(1000, some ⟨.agg [.str ((unA s).1).r, .err 165 (((unA s).1).e) (offE eo (((unA s).1).e))], 107, true⟩)]) [(500, 1000)] [] (itext_ev (DI.mk s 0) (s.length : Int) eo) Tryz.func36 (by kernel_rfl) rfl rfl rfl (⟨⟨_, rfl, rfl, rfl⟩, ⟨_, rfl, rfl, rfl⟩, trivial⟩) (⟨⟨_, _, rfl, rfl, rfl, rfl, id, rfl⟩, ⟨_, _, rfl, rfl, rfl, rfl, (fun h => by cases h), rfl⟩, ⟨_, _, rfl, rfl, rfl, rfl, (fun h => by cases h), rfl⟩, trivial⟩) (⟨⟨500, _, rfl, rfl, rfl, rfl, .inr ⟨rfl, _, rfl, rfl⟩⟩, trivial⟩) (⟨(fun _ => ⟨1000, _, rfl, rfl⟩), (fun h => by cases h), (fun h => by cases h), trivial⟩) rfl) trivial rfl ?_
 refine .q (op_move rfl) trivial rfl ?_
 refine .q (op_move rfl) trivial rfl ?_
 refine .q (op_len_str Tryz.underlying9 rfl) trivial rfl ?_
 refine .a (op_call (U := [(1000, some ⟨.agg [.str ((unB s).1).r, .err 165 (((unB s).1).e) (offE eo (((unB s).1).e))], 107, true⟩)]) [(500, 1000)] [] (itext_ev ((unA s).1) (s.length : Int) eo) Tryz.func36 (by kernel_rfl) rfl rfl rfl (⟨⟨_, rfl, rfl, rfl⟩, ⟨_, rfl, rfl, rfl⟩, trivial⟩) (⟨⟨_, _, rfl, rfl, rfl, rfl, id, rfl⟩, ⟨_, _, rfl, rfl, rfl, rfl, (fun h => by cases h), rfl⟩, ⟨_, _, rfl, rfl, rfl, rfl, (fun h => by cases h), rfl⟩, trivial⟩) (⟨⟨500, _, rfl, rfl, rfl, rfl, .inr ⟨rfl, _, rfl, rfl⟩⟩, trivial⟩) (⟨(fun _ => ⟨1000, _, rfl, rfl⟩), (fun h => by cases h), (fun h => by cases h), trivial⟩) rfl) trivial rfl ?_
 refine .q (op_assign rfl) trivial rfl ?_
 refine .q (op_assign rfl) trivial rfl ?_
 refine .nil ?_
 show Ev _ _ _ _ _
 refine .seq ?_
 refine .seq ?_
 refine .region ?_
 refine .q (op_move rfl) trivial rfl ?_
 refine .a (op_call (U := [(1000, some ⟨.agg [.str (endD (unB s).1).r, .err 165 ((endD (unB s).1).e) (offE eo ((endD (unB s).1).e))], 107, true⟩)]) [(500, 1000)] [] (end_ev ((unB s).1) eo) Tryz.func29 (by kernel_rfl) rfl rfl rfl (⟨⟨_, rfl, rfl, rfl⟩, trivial⟩) (⟨⟨_, _, rfl, rfl, rfl, rfl, id, rfl⟩, ⟨_, _, rfl, rfl, rfl, rfl, (fun h => by cases h), rfl⟩, trivial⟩) (⟨⟨500, _, rfl, rfl, rfl, rfl, .inr ⟨rfl, _, rfl, rfl⟩⟩, trivial⟩) (⟨(fun _ => ⟨1000, _, rfl, rfl⟩), (fun h => by cases h), trivial⟩) rfl) trivial rfl ?_
 refine .q (op_assign rfl) trivial rfl ?_
 refine .nil ?_
 show Ev _ _ _ _ _
 refine .seq ?_
 refine .region ?_
 refine .q (op_move rfl) trivial rfl ?_
 refine .q (op_eqErrNil (e := (endD (unB s).1).e) Tryz.underlying30 rfl rfl) trivial rfl ?_
 refine .nil ?_
 show Ev _ _ _ _ _
 refine .cond_false rfl (bne_eq_false_iff_eq.2 h) ?_
 refine .skip ?_
 show Ev _ _ _ _ _
 refine .seq ?_
 refine .seq ?_
 refine .region ?_
 refine .q (op_move rfl) trivial rfl ?_
 refine .q (op_eqS rfl rfl rfl) trivial rfl ?_
 refine .q (op_move rfl) trivial rfl ?_
 refine .know (b' := false) (bne_eq_false_iff_eq.2 h2) ?_
 refine .q (op_move rfl) ⟨_, rfl, rfl⟩ rfl ?_
 refine .q (op_len_str Tryz.underlying9 rfl) ⟨_, rfl, rfl⟩ rfl ?_
 refine .q (op_move rfl) ⟨_, rfl, rfl⟩ rfl ?_
 refine .q (op_cmpI rfl rfl rfl) ⟨_, rfl, rfl⟩ rfl ?_
 refine .q (op_pick_false rfl rfl rfl) trivial rfl ?_
 refine .nil ?_
 show Ev _ _ _ _ _
 refine .cond_true rfl (bne_iff_ne.2 (fun e => h3 (Int.ofNat.inj e))) ?_
 refine .seq ?_
 refine .region ?_
 refine .q (op_move rfl) trivial rfl ?_
 refine .q (op_assign rfl) trivial rfl ?_
 refine .q (op_assign rfl) trivial rfl ?_
 refine .nil ?_
 show Ev _ _ _ _ _
 refine .ret ?_
 show RetOk _ _ _ _ _ _ _
 exact ret2v rfl (.inl rfl) rfl rfl rfl rfl trivial
set_option maxRecDepth 100000 in
theorem unb_ok (s : List UInt8) (_hs : s.length ≤ 1000000) (size wrong : Nat) (eo : Nat → Nat × Nat) (h : unE s = 0) (h2 : (unA s).2 = algB) (h3 : (unB s).2.length = size) : Meets Tryz.prog 19 [.str s, .i64 (size : Int), .err 165 (wrong) (offE eo (wrong))] [(3, some ⟨.agg [.err 165 (2) (offE eo (2))], errT, false⟩), (5, some ⟨.agg [.err 165 (4) (offE eo (4))], errT, false⟩), (4, some ⟨.agg [.err 165 (3) (offE eo (3))], errT, false⟩)] (.tup [.str (unB s).2, .err 165 (0) (offE eo (0))]) [] := by
 refine meets_of_ev (nt := 37) Tryz.func19 rfl rfl (Nat.le_of_ble_eq_true rfl) ?_
 refine .seq ?_
 refine .region ?_
 refine .q (op_assign rfl) trivial rfl ?_
 refine .q (op_assign rfl) trivial rfl ?_
 refine .nil ?_
 show Ev _ _ _ _ _
 refine .seq ?_
 refine .region ?_
 refine .q (op_move rfl) trivial rfl ?_
 refine .a (op_call (U := [(1000, some ⟨.agg [.str (DI.mk s 0).r, .err 165 ((DI.mk s 0).e) (offE eo ((DI.mk s 0).e))], 107, true⟩)]) [] [(1000, 1000)] (wof_ev s eo) Tryz.func25 (by kernel_rfl) rfl rfl rfl (⟨⟨_, rfl, rfl, rfl⟩, trivial⟩) (trivial) (⟨⟨1000, _, rfl, rfl, rfl, rfl, .inl rfl⟩, trivial⟩) (trivial) rfl) trivial rfl ?_
 refine .q (op_assign rfl) trivial rfl ?_
 refine .nil ?_
 show Ev _ _ _ _ _
 refine .seq ?_
 refine .region ?_
 refine .q (op_move rfl) trivial rfl ?_
 refine .q (op_move rfl) trivial rfl ?_
 refine .q (op_len_str Tryz.underlying9 rfl) trivial rfl ?_
 refine .a (op_call (U := [(1000, some ⟨.agg [.str ((unA s).1).r, .err 165 (((unA s).1).e) (offE eo (((unA s).1).e))], 107, true⟩)]) [(500, 1000)] [] (itext_ev (DI.mk s 0) (s.length : Int) eo) Tryz.func36 (by kernel_rfl) rfl rfl rfl (⟨⟨_, rfl, rfl, rfl⟩, ⟨_, rfl, rfl, rfl⟩, trivial⟩) (⟨⟨_, _, rfl, rfl, rfl, rfl, id, rfl⟩, ⟨_, _, rfl, rfl, rfl, rfl, (fun h => by cases h), rfl⟩, ⟨_, _, rfl, rfl, rfl, rfl, (fun h => by cases h), rfl⟩, trivial⟩) (⟨⟨500, _, rfl, rfl, rfl, rfl, .inr ⟨rfl, _, rfl, rfl⟩⟩, trivial⟩) (⟨(fun _ => ⟨1000, _, rfl, rfl⟩), (fun h => by cases h), (fun h => by cases h), trivial⟩) rfl) trivial rfl ?_
 refine .q (op_move rfl) trivial rfl ?_
 refine .q (op_move rfl) trivial rfl ?_
 refine .q (op_len_str Tryz.underlying9 rfl) trivial rfl ?_
 refine .a (op_call (U := [(1000, some ⟨.agg [.str ((unB s).1).r, .err 165 (((unB s).1).e) (offE eo (((unB s).1).e))], 107, true⟩)]) [(500, 1000)] [] (itext_ev ((unA s).1) (s.length : Int) eo) Tryz.func36 (by kernel_rfl) rfl rfl rfl (⟨⟨_, rfl, rfl, rfl⟩, ⟨_, rfl, rfl, rfl⟩, trivial⟩) (⟨⟨_, _, rfl, rfl, rfl, rfl, id, rfl⟩, ⟨_, _, rfl, rfl, rfl, rfl, (fun h => by cases h), rfl⟩, ⟨_, _, rfl, rfl, rfl, rfl, (fun h => by cases h), rfl⟩, trivial⟩) (⟨⟨500, _, rfl, rfl, rfl, rfl, .inr ⟨rfl, _, rfl, rfl⟩⟩, trivial⟩) (⟨(fun _ => ⟨1000, _, rfl, rfl⟩), (fun h => by cases h), (fun h => by cases h), trivial⟩) rfl) trivial rfl ?_
 refine .q (op_assign rfl) trivial rfl ?_
 refine .q (op_assign rfl) trivial rfl ?_
 refine .nil ?_
 show Ev _ _ _ _ _
 refine .seq ?_
 refine .seq ?_
 refine .region ?_
 refine .q (op_move rfl) trivial rfl ?_
 refine .a (op_call (U := [(1000, some ⟨.agg [.str (endD (unB s).1).r, .err 165 ((endD (unB s).1).e) (offE eo ((endD (unB s).1).e))], 107, true⟩)]) [(500, 1000)] [] (end_ev ((unB s).1) eo) Tryz.func29 (by kernel_rfl) rfl rfl rfl (⟨⟨_, rfl, rfl, rfl⟩, trivial⟩) (⟨⟨_, _, rfl, rfl, rfl, rfl, id, rfl⟩, ⟨_, _, rfl, rfl, rfl, rfl, (fun h => by cases h), rfl⟩, trivial⟩) (⟨⟨500, _, rfl, rfl, rfl, rfl, .inr ⟨rfl, _, rfl, rfl⟩⟩, trivial⟩) (⟨(fun _ => ⟨1000, _, rfl, rfl⟩), (fun h => by cases h), trivial⟩) rfl) trivial rfl ?_
 refine .q (op_assign rfl) trivial rfl ?_
 refine .nil ?_
 show Ev _ _ _ _ _
 refine .seq ?_
 refine .region ?_
 refine .q (op_move rfl) trivial rfl ?_
 refine .q (op_eqErrNil (e := (endD (unB s).1).e) Tryz.underlying30 rfl rfl) trivial rfl ?_
 refine .nil ?_
 show Ev _ _ _ _ _
 refine .cond_false rfl (bne_eq_false_iff_eq.2 h) ?_
 refine .skip ?_
 show Ev _ _ _ _ _
 refine .seq ?_
 refine .seq ?_
 refine .region ?_
 refine .q (op_move rfl) trivial rfl ?_
 refine .q (op_eqS rfl rfl rfl) trivial rfl ?_
 refine .q (op_move rfl) trivial rfl ?_
 refine .know (b' := false) (bne_eq_false_iff_eq.2 h2) ?_
 refine .q (op_move rfl) ⟨_, rfl, rfl⟩ rfl ?_
 refine .q (op_len_str Tryz.underlying9 rfl) ⟨_, rfl, rfl⟩ rfl ?_
 refine .q (op_move rfl) ⟨_, rfl, rfl⟩ rfl ?_
 refine .q (op_cmpI rfl rfl rfl) ⟨_, rfl, rfl⟩ rfl ?_
 refine .q (op_pick_false rfl rfl rfl) trivial rfl ?_
 refine .nil ?_
 show Ev _ _ _ _ _
 refine .cond_false rfl (bne_eq_false_iff_eq.2 (congrArg (fun n : Nat => (n : Int)) h3)) ?_
 refine .skip ?_
 show Ev _ _ _ _ _
 refine .seq ?_
 refine .region ?_
 refine .q (op_move rfl) trivial rfl ?_
 refine .q (op_assign rfl) trivial rfl ?_
 refine .q (op_assign rfl) trivial rfl ?_
 refine .asR (.err 165 (0) (offE eo (0))) (nil_err _ _) ?_
 refine .nil ?_
 show Ev _ _ _ _ _
 refine .ret ?_
 show RetOk _ _ _ _ _ _ _
 exact ret2v rfl (.inl rfl) rfl rfl rfl rfl trivial
theorem unblob_ev (s : List UInt8) (hs : s.length ≤ 1000000) (size wrong : Nat) (eo : Nat → Nat × Nat) : Meets Tryz.prog 19 [.str s, .i64 (size : Int), .err 165 (wrong) (offE eo (wrong))] [(3, some ⟨.agg [.err 165 (2) (offE eo (2))], errT, false⟩), (5, some ⟨.agg [.err 165 (4) (offE eo (4))], errT, false⟩), (4, some ⟨.agg [.err 165 (3) (offE eo (3))], errT, false⟩)] (.tup [.str (unbD s size wrong).1, .err 165 ((unbD s size wrong).2) (offE eo ((unbD s size wrong).2))]) [] := by
 by_cases h : unE s = 0
 ·by_cases h2 : (unA s).2 = algB
  ·by_cases h3 : (unB s).2.length = size
   ·rw [unbD_ok h ⟨h2, h3⟩]; exact unb_ok s hs size wrong eo h h2 h3
   ·rw [unbD_no h (fun x => h3 x.2)]; exact unb_bad2 s hs size wrong eo h h2 h3
  ·rw [unbD_no h (fun x => h2 x.1)]; exact unb_bad1 s hs size wrong eo h h2
 ·rw [unbD_err h]; exact unb_err s hs size wrong eo h
set_option maxRecDepth 100000 in
theorem bk_ok (s : List UInt8) (hs : s.length ≤ 1000000) (eo : Nat → Nat × Nat) (h : (unbD s 32 10).2 = 0) (hl : (unbD s 32 10).1.length = 32) : Meets Tryz.prog 8 [.str s] [(3, some ⟨.agg [.err 165 (2) (offE eo (2))], errT, false⟩), (5, some ⟨.agg [.err 165 (4) (offE eo (4))], errT, false⟩), (4, some ⟨.agg [.err 165 (3) (offE eo (3))], errT, false⟩), (0, some ⟨.agg [.err 165 (10) (offE eo (10))], errT, false⟩)] (.tup [.aggB (unbD s 32 10).1, .val .nilIface]) [] := by
 refine meets_of_ev (nt := 19) Tryz.func8 rfl rfl (Nat.le_of_ble_eq_true rfl) ?_
 refine .seq ?_
 refine .region ?_
 refine .a (op_allocRow zero22 rel_zero22 rfl) trivial rfl ?_
 refine .q (op_assign rfl) trivial rfl ?_
 refine .nil ?_
 show Ev _ _ _ _ _
 refine .seq ?_
 refine .region ?_
 refine .a (op_allocRow zero22 rel_zero22 rfl) trivial rfl ?_
 refine .nil ?_
 show Ev _ _ _ _ _
 refine .seq ?_
 refine .region ?_
 refine .q (op_move rfl) trivial rfl ?_
 refine .q (op_load Tryz.underlying30 rfl rfl rfl rfl (by first | omega | (simp only [AV.len]; omega) | (simp only [AV.len]; omega) | assumption | (simp [AV.len]; done))) trivial rfl ?_
 refine .q (op_call (U := []) [] [] (unblob_ev s hs 32 10 eo) Tryz.func19 (by kernel_rfl) rfl rfl rfl (⟨⟨_, rfl, rfl, rfl⟩, ⟨_, rfl, rfl, rfl⟩, ⟨_, rfl, rfl, rfl⟩, trivial⟩) (⟨⟨_, _, rfl, rfl, rfl, rfl, (fun h => by cases h), rfl⟩, ⟨_, _, rfl, rfl, rfl, rfl, (fun h => by cases h), rfl⟩, ⟨_, _, rfl, rfl, rfl, rfl, (fun h => by cases h), rfl⟩, trivial⟩) (trivial) (⟨(fun h => by cases h), (fun h => by cases h), (fun h => by cases h), trivial⟩) rfl) trivial rfl ?_
 refine .as (.tup [.str (unbD s 32 10).1, .err 165 (0) (offE eo (0))]) (by rw [h]; rfl) ?_
 refine .q (op_move rfl) trivial rfl ?_
 refine .q (op_extract rfl rfl) trivial rfl ?_
 refine .q (op_extract rfl rfl) trivial rfl ?_
 refine .q (op_assign rfl) trivial rfl ?_
 refine .q (op_assign rfl) trivial rfl ?_
 refine .nil ?_
 show Ev _ _ _ _ _
 refine .seq ?_
 refine .region ?_
 refine .q (ap_slice_arr_hi Tryz.underlying22 inf5.sz rfl rfl (by first | (simp only [AV.len, List.length_replicate]; done) | (simp only [AV.len, List.length_replicate]; omega) | omega) (by decide) rfl (by first | (simp only [AV.len, List.length_replicate]; done) | (simp only [AV.len, List.length_replicate]; omega) | omega)) trivial rfl ?_
 refine .q (op_move rfl) trivial rfl ?_
 refine .a (op_copy (q := 32) (c' := .aggB (unbD s 32 10).1) Tryz.underlying26 inf5.sz rfl rfl rfl (srcs_str rfl) (by simp only [AV.len, List.length_replicate]; omega) (by rw [hl]; rfl) (key_list hl)) trivial rfl ?_
 refine .nil ?_
 show Ev _ _ _ _ _
 refine .seq ?_
 refine .drawnF [[], [], [1], [0, 1, 2], [0, 1, 2, 3]] [0, 2, 3] [] [(0, ([1008], [])), (2, ([], [])), (3, ([1000], [1000]))] (by kernel_rfl) (by kernel_rfl) rfl ?_
 show DK _ [0, 1, 2, 3, 4] _ _ _
 refine .q rfl (op_loadRow Tryz.underlying22 rfl sz22 rfl rfl rfl (by first | (simp only [AV.len]; done) | (simp only [AV.len]; exact hl) | (simp only [AV.len]; rw [hl]; done) | (simp only [AV.len, List.length_replicate]; omega) | (simp only [AV.len, hl]; omega))) trivial ?_
 refine .q rfl (op_move rfl) trivial ?_
 refine .q rfl (op_call (U := []) [] [] (wrap0_ev [107, 101, 121] eo) Tryz.func20 (by kernel_rfl) rfl rfl rfl (⟨⟨_, rfl, rfl, rfl⟩, ⟨_, rfl, rfl, rfl⟩, trivial⟩) (trivial) (trivial) (trivial) rfl) trivial ?_
 refine .w rfl (op_storeRow sz22 rfl rfl rfl rfl rfl (by first | (simp only [AV.len]; done) | (simp only [AV.len]; exact hl) | (simp only [AV.len]; rw [hl]; done) | (simp only [AV.len, List.length_replicate]; omega) | (simp only [AV.len, hl]; omega)) (by first | (simp only [AV.len, List.length_replicate]; done) | (simp only [AV.len]; exact hl) | (simp only [AV.len]; rw [hl]; done) | (simp only [AV.len, List.length_replicate]; omega) | (simp only [AV.len, hl]; omega))) trivial rfl rfl ?_
 refine .q rfl (op_assign rfl) trivial ?_
 refine .nil ?_
 show Ev _ _ _ _ _
 refine .ret ?_
 show RetOk _ _ _ _ _ _ _
 exact retc2 rfl (.inl rfl) ⟨_, _, _, _, rfl, rfl, rfl, rfl, (hl), Tryz.underlying22, rfl, sz22⟩ rfl trivial
set_option maxRecDepth 100000 in
theorem bk_bad (s : List UInt8) (hs : s.length ≤ 1000000) (eo : Nat → Nat × Nat) (x : Nat) (h : (unbD s 32 10).2 = x + 1) : Meets Tryz.prog 8 [.str s] [(3, some ⟨.agg [.err 165 (2) (offE eo (2))], errT, false⟩), (5, some ⟨.agg [.err 165 (4) (offE eo (4))], errT, false⟩), (4, some ⟨.agg [.err 165 (3) (offE eo (3))], errT, false⟩), (0, some ⟨.agg [.err 165 (10) (offE eo (10))], errT, false⟩)] (.tup [.aggB (List.replicate 32 0), .ifc 63 (.ptr 1040 0)]) [(1040, some ⟨.agg [.str [107, 101, 121], .err 165 (x + 1) (offE eo (x + 1))], 67, true⟩)] := by
 refine meets_of_ev (nt := 19) Tryz.func8 rfl rfl (Nat.le_of_ble_eq_true rfl) ?_
 refine .seq ?_
 refine .region ?_
 refine .a (op_allocRow zero22 rel_zero22 rfl) trivial rfl ?_
 refine .q (op_assign rfl) trivial rfl ?_
 refine .nil ?_
 show Ev _ _ _ _ _
 refine .seq ?_
 refine .region ?_
 refine .a (op_allocRow zero22 rel_zero22 rfl) trivial rfl ?_
 refine .nil ?_
 show Ev _ _ _ _ _
 refine .seq ?_
 refine .region ?_
 refine .q (op_move rfl) trivial rfl ?_
 refine .q (op_load Tryz.underlying30 rfl rfl rfl rfl (by first | omega | (simp only [AV.len]; omega) | (simp only [AV.len]; omega) | assumption | (simp [AV.len]; done))) trivial rfl ?_
 refine .q (op_call (U := []) [] [] (unblob_ev s hs 32 10 eo) Tryz.func19 (by kernel_rfl) rfl rfl rfl (⟨⟨_, rfl, rfl, rfl⟩, ⟨_, rfl, rfl, rfl⟩, ⟨_, rfl, rfl, rfl⟩, trivial⟩) (⟨⟨_, _, rfl, rfl, rfl, rfl, (fun h => by cases h), rfl⟩, ⟨_, _, rfl, rfl, rfl, rfl, (fun h => by cases h), rfl⟩, ⟨_, _, rfl, rfl, rfl, rfl, (fun h => by cases h), rfl⟩, trivial⟩) (trivial) (⟨(fun h => by cases h), (fun h => by cases h), (fun h => by cases h), trivial⟩) rfl) trivial rfl ?_
 refine .as (.tup [.str [], .err 165 (x + 1) (offE eo (x + 1))]) (by rw [h, unb_nil (by rw [h]; exact Nat.succ_ne_zero x)]; rfl) ?_
 refine .q (op_move rfl) trivial rfl ?_
 refine .q (op_extract rfl rfl) trivial rfl ?_
 refine .q (op_extract rfl rfl) trivial rfl ?_
 refine .q (op_assign rfl) trivial rfl ?_
 refine .q (op_assign rfl) trivial rfl ?_
 refine .nil ?_
 show Ev _ _ _ _ _
 refine .seq ?_
 refine .region ?_
 refine .q (ap_slice_arr_hi Tryz.underlying22 inf5.sz rfl rfl (by first | (simp only [AV.len, List.length_replicate]; done) | (simp only [AV.len, List.length_replicate]; omega) | omega) (by decide) rfl (by first | (simp only [AV.len, List.length_replicate]; done) | (simp only [AV.len, List.length_replicate]; omega) | omega)) trivial rfl ?_
 refine .q (op_move rfl) trivial rfl ?_
 refine .a (op_copy (q := 0) (c' := .aggB (List.replicate 32 0)) Tryz.underlying26 inf5.sz rfl rfl rfl (srcs_str rfl) (by simp only [AV.len, List.length_replicate]; omega) (by rfl) (by simp [AV.list, AV.parts])) trivial rfl ?_
 refine .nil ?_
 show Ev _ _ _ _ _
 refine .seq ?_
 refine .drawnF [[], [], [1], [0, 1, 2], [0, 1, 2, 3]] [0, 2, 3] [] [(0, ([1008], [])), (2, ([], [])), (3, ([1000], [1000]))] (by kernel_rfl) (by kernel_rfl) rfl ?_
 show DK _ [0, 1, 2, 3, 4] _ _ _
 refine .q rfl (op_loadRow Tryz.underlying22 rfl sz22 rfl rfl rfl (by first | (simp only [AV.len, List.length_replicate]; done) | (simp only [AV.len]; exact hl) | (simp only [AV.len]; rw [hl]; done) | (simp only [AV.len, List.length_replicate]; omega) | (simp only [AV.len, hl]; omega))) trivial ?_
 refine .q rfl (op_move rfl) trivial ?_
 refine .a rfl (op_call (U := [(1040, some ⟨.agg [.str [107, 101, 121], .err 165 (x + 1) (offE eo (x + 1))], 67, true⟩)]) [] [(1040, 1000)] (wrapK_ev [107, 101, 121] x eo) Tryz.func20 (by kernel_rfl) rfl rfl rfl (⟨⟨_, rfl, rfl, rfl⟩, ⟨_, rfl, rfl, rfl⟩, trivial⟩) (trivial) (⟨⟨1000, _, rfl, rfl, rfl, rfl, .inl rfl⟩, trivial⟩) (trivial) rfl) trivial rfl rfl ?_
 refine .w rfl (op_storeRow sz22 rfl rfl rfl rfl rfl (by first | (simp only [AV.len, List.length_replicate]; done) | (simp only [AV.len]; exact hl) | (simp only [AV.len]; rw [hl]; done) | (simp only [AV.len, List.length_replicate]; omega) | (simp only [AV.len, hl]; omega)) (by first | (simp only [AV.len, List.length_replicate]; done) | (simp only [AV.len]; exact hl) | (simp only [AV.len]; rw [hl]; done) | (simp only [AV.len, List.length_replicate]; omega) | (simp only [AV.len, hl]; omega))) trivial rfl rfl ?_
 refine .q rfl (op_assign rfl) trivial ?_
 refine .nil ?_
 show Ev _ _ _ _ _
 refine .ret ?_
 show RetOk _ _ _ _ _ _ _
 exact retc2 rfl (.inl rfl) ⟨_, _, _, _, rfl, rfl, rfl, rfl, (List.length_replicate), Tryz.underlying22, rfl, sz22⟩ rfl ⟨rfl, trivial⟩
set_option maxRecDepth 100000 in
theorem bs_ok (s : List UInt8) (hs : s.length ≤ 1000000) (eo : Nat → Nat × Nat) (h : (unbD s 64 11).2 = 0) (hl : (unbD s 64 11).1.length = 64) : Meets Tryz.prog 9 [.str s] [(3, some ⟨.agg [.err 165 (2) (offE eo (2))], errT, false⟩), (5, some ⟨.agg [.err 165 (4) (offE eo (4))], errT, false⟩), (4, some ⟨.agg [.err 165 (3) (offE eo (3))], errT, false⟩), (1, some ⟨.agg [.err 165 (11) (offE eo (11))], errT, false⟩)] (.tup [.aggB (unbD s 64 11).1, .val .nilIface]) [] := by
 refine meets_of_ev (nt := 19) Tryz.func9 rfl rfl (Nat.le_of_ble_eq_true rfl) ?_
 refine .seq ?_
 refine .region ?_
 refine .a (op_allocRow zero25 rel_zero25 rfl) trivial rfl ?_
 refine .q (op_assign rfl) trivial rfl ?_
 refine .nil ?_
 show Ev _ _ _ _ _
 refine .seq ?_
 refine .region ?_
 refine .a (op_allocRow zero25 rel_zero25 rfl) trivial rfl ?_
 refine .nil ?_
 show Ev _ _ _ _ _
 refine .seq ?_
 refine .region ?_
 refine .q (op_move rfl) trivial rfl ?_
 refine .q (op_load Tryz.underlying30 rfl rfl rfl rfl (by first | omega | (simp only [AV.len]; omega) | (simp only [AV.len]; omega) | assumption | (simp [AV.len]; done))) trivial rfl ?_
 refine .q (op_call (U := []) [] [] (unblob_ev s hs 64 11 eo) Tryz.func19 (by kernel_rfl) rfl rfl rfl (⟨⟨_, rfl, rfl, rfl⟩, ⟨_, rfl, rfl, rfl⟩, ⟨_, rfl, rfl, rfl⟩, trivial⟩) (⟨⟨_, _, rfl, rfl, rfl, rfl, (fun h => by cases h), rfl⟩, ⟨_, _, rfl, rfl, rfl, rfl, (fun h => by cases h), rfl⟩, ⟨_, _, rfl, rfl, rfl, rfl, (fun h => by cases h), rfl⟩, trivial⟩) (trivial) (⟨(fun h => by cases h), (fun h => by cases h), (fun h => by cases h), trivial⟩) rfl) trivial rfl ?_
 refine .as (.tup [.str (unbD s 64 11).1, .err 165 (0) (offE eo (0))]) (by rw [h]; rfl) ?_
 refine .q (op_move rfl) trivial rfl ?_
 refine .q (op_extract rfl rfl) trivial rfl ?_
 refine .q (op_extract rfl rfl) trivial rfl ?_
 refine .q (op_assign rfl) trivial rfl ?_
 refine .q (op_assign rfl) trivial rfl ?_
 refine .nil ?_
 show Ev _ _ _ _ _
 refine .seq ?_
 refine .region ?_
 refine .q (ap_slice_arr_hi Tryz.underlying25 inf5.sz rfl rfl (by first | (simp only [AV.len, List.length_replicate]; done) | (simp only [AV.len, List.length_replicate]; omega) | omega) (by decide) rfl (by first | (simp only [AV.len, List.length_replicate]; done) | (simp only [AV.len, List.length_replicate]; omega) | omega)) trivial rfl ?_
 refine .q (op_move rfl) trivial rfl ?_
 refine .a (op_copy (q := 64) (c' := .aggB (unbD s 64 11).1) Tryz.underlying26 inf5.sz rfl rfl rfl (srcs_str rfl) (by simp only [AV.len, List.length_replicate]; omega) (by rw [hl]; rfl) (key_list hl)) trivial rfl ?_
 refine .nil ?_
 show Ev _ _ _ _ _
 refine .seq ?_
 refine .drawnF [[], [], [1], [0, 1, 2], [0, 1, 2, 3]] [0, 2, 3] [] [(0, ([1008], [])), (2, ([], [])), (3, ([1000], [1000]))] (by kernel_rfl) (by kernel_rfl) rfl ?_
 show DK _ [0, 1, 2, 3, 4] _ _ _
 refine .q rfl (op_loadRow Tryz.underlying25 rfl sz25 rfl rfl rfl (by first | (simp only [AV.len]; done) | (simp only [AV.len]; exact hl) | (simp only [AV.len]; rw [hl]; done) | (simp only [AV.len, List.length_replicate]; omega) | (simp only [AV.len, hl]; omega))) trivial ?_
 refine .q rfl (op_move rfl) trivial ?_
 refine .q rfl (op_call (U := []) [] [] (wrap0_ev [115, 105, 103, 110, 97, 116, 117, 114, 101] eo) Tryz.func20 (by kernel_rfl) rfl rfl rfl (⟨⟨_, rfl, rfl, rfl⟩, ⟨_, rfl, rfl, rfl⟩, trivial⟩) (trivial) (trivial) (trivial) rfl) trivial ?_
 refine .w rfl (op_storeRow sz25 rfl rfl rfl rfl rfl (by first | (simp only [AV.len]; done) | (simp only [AV.len]; exact hl) | (simp only [AV.len]; rw [hl]; done) | (simp only [AV.len, List.length_replicate]; omega) | (simp only [AV.len, hl]; omega)) (by first | (simp only [AV.len, List.length_replicate]; done) | (simp only [AV.len]; exact hl) | (simp only [AV.len]; rw [hl]; done) | (simp only [AV.len, List.length_replicate]; omega) | (simp only [AV.len, hl]; omega))) trivial rfl rfl ?_
 refine .q rfl (op_assign rfl) trivial ?_
 refine .nil ?_
 show Ev _ _ _ _ _
 refine .ret ?_
 show RetOk _ _ _ _ _ _ _
 exact retc2 rfl (.inl rfl) ⟨_, _, _, _, rfl, rfl, rfl, rfl, (hl), Tryz.underlying25, rfl, sz25⟩ rfl trivial
set_option maxRecDepth 100000 in
theorem bs_bad (s : List UInt8) (hs : s.length ≤ 1000000) (eo : Nat → Nat × Nat) (x : Nat) (h : (unbD s 64 11).2 = x + 1) : Meets Tryz.prog 9 [.str s] [(3, some ⟨.agg [.err 165 (2) (offE eo (2))], errT, false⟩), (5, some ⟨.agg [.err 165 (4) (offE eo (4))], errT, false⟩), (4, some ⟨.agg [.err 165 (3) (offE eo (3))], errT, false⟩), (1, some ⟨.agg [.err 165 (11) (offE eo (11))], errT, false⟩)] (.tup [.aggB (List.replicate 64 0), .ifc 63 (.ptr 1040 0)]) [(1040, some ⟨.agg [.str [115, 105, 103, 110, 97, 116, 117, 114, 101], .err 165 (x + 1) (offE eo (x + 1))], 67, true⟩)] := by
 refine meets_of_ev (nt := 19) Tryz.func9 rfl rfl (Nat.le_of_ble_eq_true rfl) ?_
 refine .seq ?_
 refine .region ?_
 refine .a (op_allocRow zero25 rel_zero25 rfl) trivial rfl ?_
 refine .q (op_assign rfl) trivial rfl ?_
 refine .nil ?_
 show Ev _ _ _ _ _
 refine .seq ?_
 refine .region ?_
 refine .a (op_allocRow zero25 rel_zero25 rfl) trivial rfl ?_
 refine .nil ?_
 show Ev _ _ _ _ _
 refine .seq ?_
 refine .region ?_
 refine .q (op_move rfl) trivial rfl ?_
 refine .q (op_load Tryz.underlying30 rfl rfl rfl rfl (by first | omega | (simp only [AV.len]; omega) | (simp only [AV.len]; omega) | assumption | (simp [AV.len]; done))) trivial rfl ?_
 refine .q (op_call (U := []) [] [] (unblob_ev s hs 64 11 eo) Tryz.func19 (by kernel_rfl) rfl rfl rfl (⟨⟨_, rfl, rfl, rfl⟩, ⟨_, rfl, rfl, rfl⟩, ⟨_, rfl, rfl, rfl⟩, trivial⟩) (⟨⟨_, _, rfl, rfl, rfl, rfl, (fun h => by cases h), rfl⟩, ⟨_, _, rfl, rfl, rfl, rfl, (fun h => by cases h), rfl⟩, ⟨_, _, rfl, rfl, rfl, rfl, (fun h => by cases h), rfl⟩, trivial⟩) (trivial) (⟨(fun h => by cases h), (fun h => by cases h), (fun h => by cases h), trivial⟩) rfl) trivial rfl ?_
 refine .as (.tup [.str [], .err 165 (x + 1) (offE eo (x + 1))]) (by rw [h, unb_nil (by rw [h]; exact Nat.succ_ne_zero x)]; rfl) ?_
 refine .q (op_move rfl) trivial rfl ?_
 refine .q (op_extract rfl rfl) trivial rfl ?_
 refine .q (op_extract rfl rfl) trivial rfl ?_
 refine .q (op_assign rfl) trivial rfl ?_
 refine .q (op_assign rfl) trivial rfl ?_
 refine .nil ?_
 show Ev _ _ _ _ _
 refine .seq ?_
 refine .region ?_
 refine .q (ap_slice_arr_hi Tryz.underlying25 inf5.sz rfl rfl (by first | (simp only [AV.len, List.length_replicate]; done) | (simp only [AV.len, List.length_replicate]; omega) | omega) (by decide) rfl (by first | (simp only [AV.len, List.length_replicate]; done) | (simp only [AV.len, List.length_replicate]; omega) | omega)) trivial rfl ?_
 refine .q (op_move rfl) trivial rfl ?_
 refine .a (op_copy (q := 0) (c' := .aggB (List.replicate 64 0)) Tryz.underlying26 inf5.sz rfl rfl rfl (srcs_str rfl) (by simp only [AV.len, List.length_replicate]; omega) (by rfl) (by simp [AV.list, AV.parts])) trivial rfl ?_
 refine .nil ?_
 show Ev _ _ _ _ _
 refine .seq ?_
 refine .drawnF [[], [], [1], [0, 1, 2], [0, 1, 2, 3]] [0, 2, 3] [] [(0, ([1008], [])), (2, ([], [])), (3, ([1000], [1000]))] (by kernel_rfl) (by kernel_rfl) rfl ?_
 show DK _ [0, 1, 2, 3, 4] _ _ _
 refine .q rfl (op_loadRow Tryz.underlying25 rfl sz25 rfl rfl rfl (by first | (simp only [AV.len, List.length_replicate]; done) | (simp only [AV.len]; exact hl) | (simp only [AV.len]; rw [hl]; done) | (simp only [AV.len, List.length_replicate]; omega) | (simp only [AV.len, hl]; omega))) trivial ?_
 refine .q rfl (op_move rfl) trivial ?_
 refine .a rfl (op_call (U := [(1040, some ⟨.agg [.str [115, 105, 103, 110, 97, 116, 117, 114, 101], .err 165 (x + 1) (offE eo (x + 1))], 67, true⟩)]) [] [(1040, 1000)] (wrapK_ev [115, 105, 103, 110, 97, 116, 117, 114, 101] x eo) Tryz.func20 (by kernel_rfl) rfl rfl rfl (⟨⟨_, rfl, rfl, rfl⟩, ⟨_, rfl, rfl, rfl⟩, trivial⟩) (trivial) (⟨⟨1000, _, rfl, rfl, rfl, rfl, .inl rfl⟩, trivial⟩) (trivial) rfl) trivial rfl rfl ?_
 refine .w rfl (op_storeRow sz25 rfl rfl rfl rfl rfl (by first | (simp only [AV.len, List.length_replicate]; done) | (simp only [AV.len]; exact hl) | (simp only [AV.len]; rw [hl]; done) | (simp only [AV.len, List.length_replicate]; omega) | (simp only [AV.len, hl]; omega)) (by first | (simp only [AV.len, List.length_replicate]; done) | (simp only [AV.len]; exact hl) | (simp only [AV.len]; rw [hl]; done) | (simp only [AV.len, List.length_replicate]; omega) | (simp only [AV.len, hl]; omega))) trivial rfl rfl ?_
 refine .q rfl (op_assign rfl) trivial ?_
 refine .nil ?_
 show Ev _ _ _ _ _
 refine .ret ?_
 show RetOk _ _ _ _ _ _ _
 exact retc2 rfl (.inl rfl) ⟨_, _, _, _, rfl, rfl, rfl, rfl, (List.length_replicate), Tryz.underlying25, rfl, sz25⟩ rfl ⟨rfl, trivial⟩
end Go.Proofs.YtaelhapmikijnaaGreatDoor
