/-
  Texts of this claim.
-/
import Derived.Test.YtcnjekoidgefpaaDoorGKL
import Derived.Test.YtcnjekoidgefpaaDoorGPC
import Derived.Test.YtcnjekoidgefpaaDoorGAO
import Derived.Test.YtcnjekoidgefpaaDoorGZ1
namespace Go.Proofs.YtcnjekoidgefpaaDoor
open Go.RowKit
/-- What is left of a number behind so many bytes. -/
def bwN (b : Nat) : Nat → Nat
  | 0 => b
  | j + 1 => bwN b j / 256
/-- A number's first bytes, the lowest ahead. -/
def lwN (b : Nat) : Nat → List UInt8
  | 0 => []
  | j + 1 => lwN b j ++ [ofI8 ((bwN b j % 256 : Nat) : Int)]
theorem length_lwN (b j : Nat) : (lwN b j).length = j := by
  induction j with
  | zero => rfl
  | succ j ih => simp [lwN, ih]
theorem bwN_eq (b j : Nat) : bwN b j = b / 256 ^ j := by
  induction j with
  | zero => simp [bwN]
  | succ j ih => rw [bwN, ih, Nat.div_div_eq_div_mul, Nat.pow_succ]
theorem bwN_le (b j : Nat) : bwN b j ≤ b := by rw [bwN_eq]; exact Nat.div_le_self _ _
theorem lw_byte (b k : Nat) (hb : b < 2 ^ 63) (hk : k < 8) : ofI8 ((bwN b k % 256 : Nat) : Int) = (ofI64 (b : Int) >>> UInt64.ofNat (8 * k)).toUInt8 := by
  have hm : bwN b k % 256 < 256 := Nat.mod_lt _ (by decide)
  have h8 : 8 * k < 64 := by omega
  apply UInt8.toNat_inj.1
  rw [ofI64_nat, UInt64.toNat_toUInt8, UInt64.toNat_shiftRight, UInt64.toNat_ofNat_of_lt' (show b < 2 ^ 64 by omega), UInt64.toNat_ofNat_of_lt' (show 8 * k < 2 ^ 64 by omega), Nat.mod_eq_of_lt h8, Nat.shiftRight_eq_div_pow, Nat.pow_mul, show 2 ^ 8 = 256 from rfl, ← bwN_eq]
  have h1 := ofI8_toNat ((bwN b k % 256 : Nat) : Int)
  omega
theorem set_front (a r : List UInt8) (z v : UInt8) : (a ++ z :: r).set a.length v = a ++ v :: r := by
  rw [List.set_append_right _ _ (Nat.le_refl _), Nat.sub_self]; rfl
theorem pw_lw (p q : List UInt8) (b : Nat) (hb : b < 2 ^ 63) : ∀ n, n ≤ 8 → ∀ m, pwN (p ++ List.replicate (n + m) 0 ++ q) p.length (ofI64 (b : Int)) n = p ++ lwN b n ++ List.replicate m 0 ++ q
  | 0, _, m => by simp [pwN, lwN]
  | n + 1, h, m => by
    have ih := pw_lw p q b hb n (by omega) (m + 1)
    rw [show n + (m + 1) = n + 1 + m by omega] at ih
    rw [pwN, ih, lwN, lw_byte b n hb (by omega)]
    have := set_front (p ++ lwN b n) (List.replicate m 0 ++ q) 0 ((ofI64 (b : Int) >>> UInt64.ofNat (8 * n)).toUInt8)
    rw [List.length_append, length_lwN] at this
    rw [List.replicate_succ]
    simpa using this
theorem lens_lw (a c : List UInt8) (ha : a.length < 2 ^ 63) (hc : c.length < 2 ^ 63) : lensL a c = lwN a.length 8 ++ lwN c.length 8 := by
  unfold lensL
  have h1 := pw_lw [] (List.replicate 8 0) a.length ha 8 (Nat.le_refl _) 0
  have h2 := pw_lw (lwN a.length 8) [] c.length hc 8 (Nat.le_refl _) 0
  rw [length_lwN] at h2
  simp only [List.nil_append, List.length_nil, Nat.add_zero, List.replicate_zero, List.append_nil] at h1 h2
  rw [show List.replicate 16 (0 : UInt8) = List.replicate 8 0 ++ List.replicate 8 0 from rfl, h1, h2]
theorem mac_text (x extra text E1 E3 : List UInt8) (Z1 Z2 : Nat) (hx : x.length = text.length) (h1 : extra ++ List.replicate Z1 0 = E1) (hz1 : Z1 = (16 - extra.length % 16) % 16) (h3 : E1 ++ x ++ List.replicate Z2 0 = E3) (hz2 : Z2 = (16 - (E1 ++ x).length % 16) % 16) (ha : extra.length < 2 ^ 63) (hc : text.length < 2 ^ 63) :
    E3 ++ lwN extra.length 8 ++ lwN text.length 8 = macIn x extra := by
  have hm : E1.length % 16 = 0 := by rw [← h1, List.length_append, List.length_replicate]; omega
  have hz : Z2 = (16 - x.length % 16) % 16 := by rw [hz2, List.length_append]; omega
  unfold macIn padL
  rw [lens_lw extra x ha (by omega), ← h3, ← h1, hz, hz1, hx]
  simp [List.append_assoc]
theorem spr_take (a b : List UInt8) (h : a.length = 32) : ((a ++ b).take 40).take 32 = a := by
  rw [List.take_take, show min 32 40 = 32 from rfl, List.take_append_of_le_length (by omega), List.take_of_length_le (by omega)]
set_option maxHeartbeats 4000000 in
set_option maxRecDepth 100000 in
theorem sealed_gen (e ek : Nat) (s0 s1 s2 key text extra L Q Sm Nn X Bk E1 E2 E3 A2 A3 O Tg : List UInt8) (Z1 Z2 : Nat) (h0 : s0.length ≤ maxLen) (h1 : s1.length ≤ maxLen) (h2 : s2.length ≤ maxLen) (hkey : s0.take 80 = key) (htext : s1.take 150 = text) (hextra : s2.take 50 = extra) (hkl : key.length ≤ 1000000) (htl : text.length ≤ 150) (hel : extra.length ≤ 50) (hL : spr1 key [108, 111, 99, 107] = L) (hQ : spr2 key [108, 111, 99, 107] = Q) (hlL : L.length = 32) (hlQ : Q.length = 32) (hSm : sha256 extra = Sm) (hlS : Sm.length = 32) (hNn : Sm.take 12 = Nn) (hlN : Nn.length = 12) (hX : cXor L (UInt32.ofNat 1) Nn text = X) (hlX : X.length = text.length) (hBk : cBlock L (UInt32.ofNat 0) Nn = Bk) (hlB : Bk.length = 64) (hZ1 : Z1 = (16 - extra.length % 16) % 16) (hE1 : extra ++ List.replicate Z1 0 = E1) (hE2 : E1 ++ X = E2) (hZ2 : Z2 = (16 - E2.length % 16) % 16) (hE3 : E2 ++ List.replicate Z2 0 = E3) (hA2 : E3 ++ lwN extra.length 8 = A2) (hA3 : A2 ++ lwN text.length 8 = A3) (hl1 : E1.length ≤ 1000) (hl2 : E2.length ≤ 2000) (hl3 : E3.length ≤ 3000) (hl4 : A2.length ≤ 4000) (hl5 : A3.length ≤ 5000) (hO : Bk.take 32 = O) (hlO : O.length = 32) (hTg : sumL O A3 = Tg) (hlT : Tg.length = 16) (hOpen : (X ++ Tg).drop ((X ++ Tg).length - 16) = tagL L Nn ((X ++ Tg).take ((X ++ Tg).length - 16)) extra) (hBack : cXor L (UInt32.ofNat 1) Nn ((X ++ Tg).take ((X ++ Tg).length - 16)) = text) (hSeal : sealL L Nn text extra = X ++ Tg) : Meets Tryd.prog 5 [.str s0, .str s1, .str s2] [(5, some ⟨.agg32 K256, ek, false⟩), (2, some ⟨.aggI qsTab, e, false⟩)] (.bool true) [] := by
 refine meets_of_ev (nt := 128) Tryd.func5 rfl rfl (Nat.le_of_ble_eq_true rfl) ?_
 refine .seq ?_
 refine .region ?_
 refine .q (op_assign rfl) trivial rfl ?_
 refine .nil ?_
 show Ev _ _ _ _ _
 refine .seq ?_
 refine .region ?_
 refine .q (op_move rfl) trivial rfl ?_
 refine .q (op_call (U := []) [] [] (cut_ev s0 80 h0 (by decide)) Tryd.func8 (by kernel_rfl) rfl rfl rfl (⟨⟨_, rfl, rfl, rfl⟩, ⟨_, rfl, rfl, rfl⟩, trivial⟩) (trivial) (trivial) (trivial) rfl) trivial rfl ?_
 refine .as (.str key) (congrArg AV.str hkey) ?_
 refine .q (op_move rfl) trivial rfl ?_
 refine .q (op_call (U := []) [] [] (cut_ev s1 150 h1 (by decide)) Tryd.func8 (by kernel_rfl) rfl rfl rfl (⟨⟨_, rfl, rfl, rfl⟩, ⟨_, rfl, rfl, rfl⟩, trivial⟩) (trivial) (trivial) (trivial) rfl) trivial rfl ?_
 refine .as (.str text) (congrArg AV.str htext) ?_
 refine .q (op_move rfl) trivial rfl ?_
 refine .q (op_call (U := []) [] [] (cut_ev s2 50 h2 (by decide)) Tryd.func8 (by kernel_rfl) rfl rfl rfl (⟨⟨_, rfl, rfl, rfl⟩, ⟨_, rfl, rfl, rfl⟩, trivial⟩) (trivial) (trivial) (trivial) rfl) trivial rfl ?_
 refine .as (.str extra) (congrArg AV.str hextra) ?_
 refine .q (op_assign rfl) trivial rfl ?_
 refine .q (op_assign rfl) trivial rfl ?_
 refine .q (op_assign rfl) trivial rfl ?_
 refine .nil ?_
 show Ev _ _ _ _ _
 refine .seq ?_
 refine .region ?_
 refine .q (op_move rfl) trivial rfl ?_
 refine .q (op_call (U := []) [] [] (kspr32_ev ek key [108, 111, 99, 107] hkl (by decide)) Tryd.func23 (by kernel_rfl) rfl rfl rfl (⟨⟨_, rfl, rfl, rfl⟩, ⟨_, rfl, rfl, rfl⟩, ⟨_, rfl, rfl, rfl⟩, trivial⟩) (⟨⟨_, _, rfl, rfl, rfl, rfl, id, rfl⟩, trivial⟩) (trivial) (⟨(fun h => by cases h), trivial⟩) rfl) trivial rfl ?_
 refine .as (.str L) (congrArg AV.str hL) ?_
 refine .q (op_assign rfl) trivial rfl ?_
 refine .nil ?_
 show Ev _ _ _ _ _
 refine .seq ?_
 refine .seq ?_
 refine .region ?_
 refine .q (op_move rfl) trivial rfl ?_
 refine .q (op_len_str Tryd.underlying9 rfl) trivial rfl ?_
 refine .q (op_cmpI rfl rfl rfl) trivial rfl ?_
 refine .as (.bool false) (congrArg AV.bool (by simp [hlL])) ?_
 refine .q (op_move rfl) trivial rfl ?_
 refine .know (b' := false) (rfl) ?_
 refine .q (op_move rfl) ⟨_, rfl, rfl⟩ rfl ?_
 refine .q (op_move rfl) ⟨_, rfl, rfl⟩ rfl ?_
 refine .q (op_call (U := []) [] [] (kspr40_ev ek key [108, 111, 99, 107] hkl (by decide)) Tryd.func23 (by kernel_rfl) rfl rfl rfl (⟨⟨_, rfl, rfl, rfl⟩, ⟨_, rfl, rfl, rfl⟩, ⟨_, rfl, rfl, rfl⟩, trivial⟩) (⟨⟨_, _, rfl, rfl, rfl, rfl, id, rfl⟩, trivial⟩) (trivial) (⟨(fun h => by cases h), trivial⟩) rfl) ⟨_, rfl, rfl⟩ rfl ?_
 refine .as (.str ((L ++ Q).take 40)) (congrArg AV.str (by rw [hL, hQ])) ?_
 refine .q (ap_slice_str_hi Tryd.underlying9 rfl (bnd_some rfl rfl) (by simp only [List.length_take, List.length_append]; omega)) ⟨_, rfl, rfl⟩ rfl ?_
 refine .as (.str L) (congrArg AV.str (by first | exact spr_take L Q hlL | (rw [List.drop_zero]; exact spr_take L Q hlL))) ?_
 refine .q (op_eqS rfl rfl rfl) ⟨_, rfl, rfl⟩ rfl ?_
 refine .as (.bool false) (congrArg AV.bool (by simp)) ?_
 refine .q (op_pick_false rfl rfl rfl) trivial rfl ?_
 refine .nil ?_
 show Ev _ _ _ _ _
 refine .cond_false rfl (rfl) ?_
 refine .skip ?_
 show Ev _ _ _ _ _
 refine .seq ?_
 refine .region ?_
 refine .q (op_move rfl) trivial rfl ?_
 refine .a (op_str_bytes Tryd.underlying9 Tryd.underlying28 Tryd.underlying5 rfl (by unfold maxLen; omega)) trivial rfl ?_
 refine .q (op_toArrPtr Tryd.underlying22 rfl (by omega) (by omega)) trivial rfl ?_
 refine .q (op_loadB Tryd.underlying22 rfl sz22 rfl rfl (by omega)) trivial rfl ?_
 refine .as (.aggB L) (congrArg AV.aggB (drop_take_all2 L 32 hlL)) ?_
 refine .a (op_allocRow zero22 rel_zero22 rfl) trivial rfl ?_
 refine .w (op_storeRow sz22 rfl rfl rfl rfl rfl (by simp only [AV.len, hlL]) (by simp only [AV.len, List.length_replicate])) trivial rfl ?_
 refine .nil ?_
 show Ev _ _ _ _ _
 refine .seq ?_
 refine .region ?_
 refine .q (op_move rfl) trivial rfl ?_
 refine .a (ap_build (us := [.str extra]) (c := .aggS [extra]) Tryd.underlying110 inf9 rfl (by decide) (by decide) ⟨rfl, rfl, rfl, trivial⟩ rfl) trivial rfl ?_
 refine .q (op_call (U := []) [(500, 1016)] [] (sum256_ev [extra] 9 ek (by simp [totN]; omega) (by simp)) Tryd.func24 (by kernel_rfl) rfl rfl rfl (⟨⟨_, rfl, rfl, rfl⟩, trivial⟩) (⟨⟨_, _, rfl, rfl, rfl, rfl, (fun h => by cases h), rfl⟩, ⟨_, _, rfl, rfl, rfl, rfl, id, rfl⟩, trivial⟩) (trivial) (⟨(fun h => by cases h), (fun h => by cases h), trivial⟩) rfl) trivial rfl ?_
 refine .as (.aggB Sm) (congrArg AV.aggB (by show sha256 [extra].flatten = _; rw [List.flatten_cons, List.flatten_nil, List.append_nil]; exact hSm)) ?_
 refine .a (op_allocRow zero22 rel_zero22 rfl) trivial rfl ?_
 refine .w (op_storeRow sz22 rfl rfl rfl rfl rfl (by simp only [AV.len, hlS]) (by simp only [AV.len, List.length_replicate])) trivial rfl ?_
 refine .nil ?_
 show Ev _ _ _ _ _
 refine .seq ?_
 refine .region ?_
 refine .q (ap_slice_arr_hi Tryd.underlying22 inf5.sz rfl rfl (by first | omega | (simp only [AV.len]; omega)) (by decide) (bnd_some rfl rfl) (by first | omega | (simp only [AV.len]; omega))) trivial rfl ?_
 refine .q (op_toArrPtr Tryd.underlying59 rfl (by decide) (by decide)) trivial rfl ?_
 refine .q (op_loadB Tryd.underlying59 rfl sz59 rfl rfl (by omega)) trivial rfl ?_
 refine .as (.aggB Nn) (congrArg AV.aggB (by rw [List.drop_zero]; exact hNn)) ?_
 refine .a (op_allocRow zero59 rel_zero59 rfl) trivial rfl ?_
 refine .w (op_storeRow sz59 rfl rfl rfl rfl rfl (by simp only [AV.len, hlN]) (by simp only [AV.len, List.length_replicate])) trivial rfl ?_
 refine .nil ?_
 show Ev _ _ _ _ _
 refine .seq ?_
 refine .region ?_
 refine .q (op_loadRow Tryd.underlying22 rfl sz22 rfl rfl rfl (hlL)) trivial rfl ?_
 refine .q (op_loadRow Tryd.underlying59 rfl sz59 rfl rfl rfl (hlN)) trivial rfl ?_
 refine .q (op_move rfl) trivial rfl ?_
 refine .q (op_call (U := []) [] [] (cxor_ev e L Nn text (UInt32.ofNat 1) hlL hlN (by omega)) Tryd.func25 (by kernel_rfl) rfl rfl rfl (⟨⟨_, rfl, rfl, rfl⟩, ⟨_, rfl, rfl, rfl⟩, ⟨_, rfl, rfl, rfl⟩, ⟨_, rfl, rfl, rfl⟩, trivial⟩) (⟨⟨_, _, rfl, rfl, rfl, rfl, id, rfl⟩, trivial⟩) (trivial) (⟨(fun h => by cases h), trivial⟩) rfl) trivial rfl ?_
 refine .as (.str X) (congrArg AV.str hX) ?_
 refine .q (op_assign rfl) trivial rfl ?_
 refine .nil ?_
 show Ev _ _ _ _ _
 refine .seq ?_
 refine .region ?_
 refine .q (op_loadRow Tryd.underlying22 rfl sz22 rfl rfl rfl (hlL)) trivial rfl ?_
 refine .q (op_loadRow Tryd.underlying59 rfl sz59 rfl rfl rfl (hlN)) trivial rfl ?_
 refine .q (op_call (U := []) [] [] (cblock_ev e L Nn (UInt32.ofNat 0) hlL hlN) Tryd.func26 (by kernel_rfl) rfl rfl rfl (⟨⟨_, rfl, rfl, rfl⟩, ⟨_, rfl, rfl, rfl⟩, ⟨_, rfl, rfl, rfl⟩, trivial⟩) (⟨⟨_, _, rfl, rfl, rfl, rfl, id, rfl⟩, trivial⟩) (trivial) (⟨(fun h => by cases h), trivial⟩) rfl) trivial rfl ?_
 refine .as (.aggB Bk) (congrArg AV.aggB hBk) ?_
 refine .a (op_allocRow zero26 rel_zero26 rfl) trivial rfl ?_
 refine .w (op_storeRow sz26 rfl rfl rfl rfl rfl (by simp only [AV.len, hlB]) (by simp only [AV.len, List.length_replicate])) trivial rfl ?_
 refine .nil ?_
 show Ev _ _ _ _ _
 refine .seq ?_
 refine .region ?_
 refine .q (op_move rfl) trivial rfl ?_
 refine .q (op_assign rfl) trivial rfl ?_
 refine .nil ?_
 show Ev _ _ _ _ _
 refine .seq ?_
 refine .block ?_
 refine Ev.loop (ι := { j : Nat // j ≤ Z1 }) (fun q => ⟨[(1, .str text), (2, .str extra), (8, .ptr 1008 0), (10, .ptr 1032 0), (11, .str X), (12, .ptr 1040 0), (13, .str (extra ++ List.replicate q.1 0))], [(1008, some ⟨.aggB L, 22, true⟩), (1032, some ⟨.aggB Nn, 59, true⟩), (1040, some ⟨.aggB Bk, 26, true⟩), (5, some ⟨.agg32 K256, ek, false⟩), (2, some ⟨.aggI qsTab, e, false⟩)], 1048⟩) (fun q => Z1 - q.1) ⟨0, Nat.zero_le _⟩ (StLe.mk [(1008, 1008), (1032, 1032), (1040, 1040)] rfl rfl ⟨⟨_, rfl, by first | rfl | (simp only [AV.ren]; rfl) | (simp only [AV.ren]; congr 1; omega), rfl⟩, ⟨_, rfl, by first | rfl | (simp only [AV.ren]; rfl) | (simp only [AV.ren]; congr 1; omega), rfl⟩, ⟨_, rfl, by first | rfl | (simp only [AV.ren]; rfl) | (simp only [AV.ren]; congr 1; omega), rfl⟩, ⟨_, rfl, by first | rfl | (simp only [AV.ren]; rfl) | (simp only [AV.ren]; congr 1; omega), rfl⟩, ⟨_, rfl, by first | rfl | (simp only [AV.ren]; rfl) | (simp only [AV.ren]; congr 1; omega), rfl⟩, ⟨_, rfl, by first | rfl | (simp only [AV.ren]; rfl) | (simp only [AV.ren]; congr 1; omega), rfl⟩, ⟨_, rfl, by (simp only [AV.ren, List.replicate_zero, List.append_nil]), rfl⟩, trivial⟩ ⟨⟨_, _, rfl, rfl, rfl, rfl, id, rfl⟩, ⟨_, _, rfl, rfl, rfl, rfl, id, rfl⟩, ⟨_, _, rfl, rfl, rfl, rfl, id, rfl⟩, ⟨_, _, rfl, rfl, rfl, rfl, id, rfl⟩, ⟨_, _, rfl, rfl, rfl, rfl, id, rfl⟩, trivial⟩) ?_
 rintro ⟨j, hj⟩
 try dsimp only
 refine .seq ?_
 refine .seq ?_
 refine .region ?_
 refine .q (op_move rfl) trivial rfl ?_
 refine .q (op_len_str Tryd.underlying9 rfl) trivial rfl ?_
 refine .as (.i64 ((extra.length + j : Nat) : Int)) (congrArg AV.i64 (by simp only [List.length_append, List.length_replicate])) ?_
 refine .q (op_remI rfl rfl ⟨by omega, by omega⟩) trivial rfl ?_
 refine .as (.i64 (((extra.length + j) % 16 : Nat) : Int)) (congrArg AV.i64 (by omega)) ?_
 refine .q (op_cmpI rfl rfl rfl) trivial rfl ?_
 refine .nil ?_
 show Ev _ _ _ _ _
 refine .cond rfl (fun hc58 => ?_) (fun hc58 => ?_)
 ·simp only [bne_iff_ne, ne_eq] at hc58
  refine .skip ?_
  show Ev _ _ _ _ _
  refine .block ?_
  refine .region ?_
  refine .q (op_move rfl) trivial rfl ?_
  refine .q (op_addS rfl rfl (by simp only [List.length_append, List.length_replicate, List.length_cons, List.length_nil]; omega)) trivial rfl ?_
  refine .q (op_assign rfl) trivial rfl ?_
  refine .nil ?_
  exact ⟨⟨j + 1, by omega⟩, by (try dsimp only); omega, StLe.mk [(1008, 1008), (1032, 1032), (1040, 1040)] rfl rfl ⟨⟨_, rfl, by first | rfl | (simp only [AV.ren]; rfl) | (simp only [AV.ren]; congr 1; omega), rfl⟩, ⟨_, rfl, by first | rfl | (simp only [AV.ren]; rfl) | (simp only [AV.ren]; congr 1; omega), rfl⟩, ⟨_, rfl, by first | rfl | (simp only [AV.ren]; rfl) | (simp only [AV.ren]; congr 1; omega), rfl⟩, ⟨_, rfl, by first | rfl | (simp only [AV.ren]; rfl) | (simp only [AV.ren]; congr 1; omega), rfl⟩, ⟨_, rfl, by first | rfl | (simp only [AV.ren]; rfl) | (simp only [AV.ren]; congr 1; omega), rfl⟩, ⟨_, rfl, by first | rfl | (simp only [AV.ren]; rfl) | (simp only [AV.ren]; congr 1; omega), rfl⟩, ⟨_, rfl, by (simp only [AV.ren, List.replicate_succ', List.append_assoc]), rfl⟩, trivial⟩ ⟨⟨_, _, rfl, rfl, rfl, rfl, id, rfl⟩, ⟨_, _, rfl, rfl, rfl, rfl, id, rfl⟩, ⟨_, _, rfl, rfl, rfl, rfl, id, rfl⟩, ⟨_, _, rfl, rfl, rfl, rfl, id, rfl⟩, ⟨_, _, rfl, rfl, rfl, rfl, id, rfl⟩, trivial⟩⟩
 ·simp only [bne_eq_false_iff_eq] at hc58
  refine .exit ?_
  show Ev _ _ _ _ _
  have hjZ : j = Z1 := by omega
  refine Ev.weak (st2 := ⟨[(1, .str text), (2, .str extra), (8, .ptr 1008 0), (10, .ptr 1032 0), (11, .str X), (12, .ptr 1040 0), (13, .str E1)], [(1008, some ⟨.aggB L, 22, true⟩), (1032, some ⟨.aggB Nn, 59, true⟩), (1040, some ⟨.aggB Bk, 26, true⟩), (5, some ⟨.agg32 K256, ek, false⟩), (2, some ⟨.aggI qsTab, e, false⟩)], 1048⟩) (StLe.mk [(1008, 1008), (1032, 1032), (1040, 1040)] rfl rfl ⟨⟨_, rfl, by first | rfl | (simp only [AV.ren]; rfl) | (simp only [AV.ren]; congr 1; omega), rfl⟩, ⟨_, rfl, by first | rfl | (simp only [AV.ren]; rfl) | (simp only [AV.ren]; congr 1; omega), rfl⟩, ⟨_, rfl, by first | rfl | (simp only [AV.ren]; rfl) | (simp only [AV.ren]; congr 1; omega), rfl⟩, ⟨_, rfl, by first | rfl | (simp only [AV.ren]; rfl) | (simp only [AV.ren]; congr 1; omega), rfl⟩, ⟨_, rfl, by first | rfl | (simp only [AV.ren]; rfl) | (simp only [AV.ren]; congr 1; omega), rfl⟩, ⟨_, rfl, by first | rfl | (simp only [AV.ren]; rfl) | (simp only [AV.ren]; congr 1; omega), rfl⟩, ⟨_, rfl, by (simp only [AV.ren]; rw [hjZ, hE1]), rfl⟩, trivial⟩ ⟨⟨_, _, rfl, rfl, rfl, rfl, id, rfl⟩, ⟨_, _, rfl, rfl, rfl, rfl, id, rfl⟩, ⟨_, _, rfl, rfl, rfl, rfl, id, rfl⟩, ⟨_, _, rfl, rfl, rfl, rfl, id, rfl⟩, ⟨_, _, rfl, rfl, rfl, rfl, id, rfl⟩, trivial⟩) ?_
  show Ev _ _ _ _ _
  refine .seq ?_
  refine .region ?_
  refine .q (op_move rfl) trivial rfl ?_
  refine .q (op_move rfl) trivial rfl ?_
  refine .q (op_addS rfl rfl (by omega)) trivial rfl ?_
  refine .as (.str E2) (congrArg AV.str hE2) ?_
  refine .q (op_assign rfl) trivial rfl ?_
  refine .nil ?_
  show Ev _ _ _ _ _
  refine .seq ?_
  refine .block ?_
  refine Ev.loop (ι := { j : Nat // j ≤ Z2 }) (fun q => ⟨[(1, .str text), (2, .str extra), (8, .ptr 1008 0), (10, .ptr 1032 0), (11, .str X), (12, .ptr 1040 0), (13, .str (E2 ++ List.replicate q.1 0))], [(1008, some ⟨.aggB L, 22, true⟩), (1032, some ⟨.aggB Nn, 59, true⟩), (1040, some ⟨.aggB Bk, 26, true⟩), (5, some ⟨.agg32 K256, ek, false⟩), (2, some ⟨.aggI qsTab, e, false⟩)], 1048⟩) (fun q => Z2 - q.1) ⟨0, Nat.zero_le _⟩ (StLe.mk [(1008, 1008), (1032, 1032), (1040, 1040)] rfl rfl ⟨⟨_, rfl, by first | rfl | (simp only [AV.ren]; rfl) | (simp only [AV.ren]; congr 1; omega), rfl⟩, ⟨_, rfl, by first | rfl | (simp only [AV.ren]; rfl) | (simp only [AV.ren]; congr 1; omega), rfl⟩, ⟨_, rfl, by first | rfl | (simp only [AV.ren]; rfl) | (simp only [AV.ren]; congr 1; omega), rfl⟩, ⟨_, rfl, by first | rfl | (simp only [AV.ren]; rfl) | (simp only [AV.ren]; congr 1; omega), rfl⟩, ⟨_, rfl, by first | rfl | (simp only [AV.ren]; rfl) | (simp only [AV.ren]; congr 1; omega), rfl⟩, ⟨_, rfl, by first | rfl | (simp only [AV.ren]; rfl) | (simp only [AV.ren]; congr 1; omega), rfl⟩, ⟨_, rfl, by (simp only [AV.ren, List.replicate_zero, List.append_nil]), rfl⟩, trivial⟩ ⟨⟨_, _, rfl, rfl, rfl, rfl, id, rfl⟩, ⟨_, _, rfl, rfl, rfl, rfl, id, rfl⟩, ⟨_, _, rfl, rfl, rfl, rfl, id, rfl⟩, ⟨_, _, rfl, rfl, rfl, rfl, id, rfl⟩, ⟨_, _, rfl, rfl, rfl, rfl, id, rfl⟩, trivial⟩) ?_
  rintro ⟨j, hj⟩
  try dsimp only
  refine .seq ?_
  refine .seq ?_
  refine .region ?_
  refine .q (op_move rfl) trivial rfl ?_
  refine .q (op_len_str Tryd.underlying9 rfl) trivial rfl ?_
  refine .as (.i64 ((E2.length + j : Nat) : Int)) (congrArg AV.i64 (by simp only [List.length_append, List.length_replicate])) ?_
  refine .q (op_remI rfl rfl ⟨by omega, by omega⟩) trivial rfl ?_
  refine .as (.i64 (((E2.length + j) % 16 : Nat) : Int)) (congrArg AV.i64 (by omega)) ?_
  refine .q (op_cmpI rfl rfl rfl) trivial rfl ?_
  refine .nil ?_
  show Ev _ _ _ _ _
  refine .cond rfl (fun hc67 => ?_) (fun hc67 => ?_)
  ·simp only [bne_iff_ne, ne_eq] at hc67
   refine .skip ?_
   show Ev _ _ _ _ _
   refine .block ?_
   refine .region ?_
   refine .q (op_move rfl) trivial rfl ?_
   refine .q (op_addS rfl rfl (by simp only [List.length_append, List.length_replicate, List.length_cons, List.length_nil]; omega)) trivial rfl ?_
   refine .q (op_assign rfl) trivial rfl ?_
   refine .nil ?_
   exact ⟨⟨j + 1, by omega⟩, by (try dsimp only); omega, StLe.mk [(1008, 1008), (1032, 1032), (1040, 1040)] rfl rfl ⟨⟨_, rfl, by first | rfl | (simp only [AV.ren]; rfl) | (simp only [AV.ren]; congr 1; omega), rfl⟩, ⟨_, rfl, by first | rfl | (simp only [AV.ren]; rfl) | (simp only [AV.ren]; congr 1; omega), rfl⟩, ⟨_, rfl, by first | rfl | (simp only [AV.ren]; rfl) | (simp only [AV.ren]; congr 1; omega), rfl⟩, ⟨_, rfl, by first | rfl | (simp only [AV.ren]; rfl) | (simp only [AV.ren]; congr 1; omega), rfl⟩, ⟨_, rfl, by first | rfl | (simp only [AV.ren]; rfl) | (simp only [AV.ren]; congr 1; omega), rfl⟩, ⟨_, rfl, by first | rfl | (simp only [AV.ren]; rfl) | (simp only [AV.ren]; congr 1; omega), rfl⟩, ⟨_, rfl, by (simp only [AV.ren, List.replicate_succ', List.append_assoc]), rfl⟩, trivial⟩ ⟨⟨_, _, rfl, rfl, rfl, rfl, id, rfl⟩, ⟨_, _, rfl, rfl, rfl, rfl, id, rfl⟩, ⟨_, _, rfl, rfl, rfl, rfl, id, rfl⟩, ⟨_, _, rfl, rfl, rfl, rfl, id, rfl⟩, ⟨_, _, rfl, rfl, rfl, rfl, id, rfl⟩, trivial⟩⟩
  ·simp only [bne_eq_false_iff_eq] at hc67
   refine .exit ?_
   show Ev _ _ _ _ _
   have hjZ : j = Z2 := by omega
   refine Ev.weak (st2 := ⟨[(1, .str text), (2, .str extra), (8, .ptr 1008 0), (10, .ptr 1032 0), (11, .str X), (12, .ptr 1040 0), (13, .str E3)], [(1008, some ⟨.aggB L, 22, true⟩), (1032, some ⟨.aggB Nn, 59, true⟩), (1040, some ⟨.aggB Bk, 26, true⟩), (5, some ⟨.agg32 K256, ek, false⟩), (2, some ⟨.aggI qsTab, e, false⟩)], 1048⟩) (StLe.mk [(1008, 1008), (1032, 1032), (1040, 1040)] rfl rfl ⟨⟨_, rfl, by first | rfl | (simp only [AV.ren]; rfl) | (simp only [AV.ren]; congr 1; omega), rfl⟩, ⟨_, rfl, by first | rfl | (simp only [AV.ren]; rfl) | (simp only [AV.ren]; congr 1; omega), rfl⟩, ⟨_, rfl, by first | rfl | (simp only [AV.ren]; rfl) | (simp only [AV.ren]; congr 1; omega), rfl⟩, ⟨_, rfl, by first | rfl | (simp only [AV.ren]; rfl) | (simp only [AV.ren]; congr 1; omega), rfl⟩, ⟨_, rfl, by first | rfl | (simp only [AV.ren]; rfl) | (simp only [AV.ren]; congr 1; omega), rfl⟩, ⟨_, rfl, by first | rfl | (simp only [AV.ren]; rfl) | (simp only [AV.ren]; congr 1; omega), rfl⟩, ⟨_, rfl, by (simp only [AV.ren]; rw [hjZ, hE3]), rfl⟩, trivial⟩ ⟨⟨_, _, rfl, rfl, rfl, rfl, id, rfl⟩, ⟨_, _, rfl, rfl, rfl, rfl, id, rfl⟩, ⟨_, _, rfl, rfl, rfl, rfl, id, rfl⟩, ⟨_, _, rfl, rfl, rfl, rfl, id, rfl⟩, ⟨_, _, rfl, rfl, rfl, rfl, id, rfl⟩, trivial⟩) ?_
   show Ev _ _ _ _ _
   refine .seq ?_
   refine .seq ?_
   refine .region ?_
   refine .q (op_move rfl) trivial rfl ?_
   refine .q (op_len_str Tryd.underlying9 rfl) trivial rfl ?_
   refine .q (op_move rfl) trivial rfl ?_
   refine .q (op_len_str Tryd.underlying9 rfl) trivial rfl ?_
   refine .a (ap_build (us := [.i64 ((extra.length : Nat) : Int), .i64 ((text.length : Nat) : Int)]) (c := .aggI [((extra.length : Nat) : Int), ((text.length : Nat) : Int)]) Tryd.underlying30 inf3 rfl (by decide) (by decide) ⟨rfl, rfl, rfl, rfl, rfl, rfl, trivial⟩ rfl) trivial rfl ?_
   refine .q (op_len_sl Tryd.underlying30 rfl) trivial rfl ?_
   refine .q (op_move rfl) trivial rfl ?_
   refine .nil ?_
   show Ev _ _ _ _ _
   refine .block ?_
   refine Ev.rounds 3 ?_
   show Ev _ _ _ _ _
   refine .seq ?_
   refine .region ?_
   refine .q (op_cmpI rfl rfl rfl) trivial rfl ?_
   refine .nil ?_
   show Ev _ _ _ _ _
   refine .seq ?_
   refine .cond_true rfl (rfl) ?_
   refine .skip ?_
   show Ev _ _ _ _ _
   refine .seq ?_
   refine .block ?_
   refine .seq ?_
   refine .region ?_
   refine .q (ap_idx0 Tryd.underlying30 inf3.sz rfl rfl rfl (by decide)) trivial rfl ?_
   refine .q (op_load Tryd.underlying3 rfl rfl rfl rfl (by show 0 < 2; decide)) trivial rfl ?_
   refine .as (.i64 ((extra.length : Nat) : Int)) rfl ?_
   refine .q (op_assign rfl) trivial rfl ?_
   refine .nil ?_
   show Ev _ _ _ _ _
   refine .seq ?_
   refine .region ?_
   refine .q (op_move rfl) trivial rfl ?_
   refine .nil ?_
   show Ev _ _ _ _ _
   refine .block ?_
   refine Ev.loop (ι := { q : Nat // q ≤ 8 }) (fun q => ⟨[(1, .str text), (2, .str extra), (8, .ptr 1008 0), (10, .ptr 1032 0), (11, .str X), (12, .ptr 1040 0), (74, .sl 1048 0 2 1), (75, .i64 2), (76, .i64 0), (13, .str (E3 ++ lwN (extra.length) q.1)), (15, .i64 ((bwN (extra.length) q.1 : Nat) : Int)), (80, .i64 ((q.1 : Nat) : Int))], [(1008, some ⟨.aggB L, 22, true⟩), (1032, some ⟨.aggB Nn, 59, true⟩), (1040, some ⟨.aggB Bk, 26, true⟩), (5, some ⟨.agg32 K256, ek, false⟩), (2, some ⟨.aggI qsTab, e, false⟩), (1048, some ⟨.aggI [((extra.length : Nat) : Int), ((text.length : Nat) : Int)], 3, true⟩)], 1056⟩) (fun q => 8 - q.1) ⟨0, Nat.zero_le _⟩ (StLe.mk [(1008, 1008), (1032, 1032), (1040, 1040), (1048, 1048)] rfl rfl ⟨⟨_, rfl, by first | rfl | (simp only [AV.ren]; rfl) | (simp only [AV.ren]; congr 1; omega), rfl⟩, ⟨_, rfl, by first | rfl | (simp only [AV.ren]; rfl) | (simp only [AV.ren]; congr 1; omega), rfl⟩, ⟨_, rfl, by first | rfl | (simp only [AV.ren]; rfl) | (simp only [AV.ren]; congr 1; omega), rfl⟩, ⟨_, rfl, by first | rfl | (simp only [AV.ren]; rfl) | (simp only [AV.ren]; congr 1; omega), rfl⟩, ⟨_, rfl, by first | rfl | (simp only [AV.ren]; rfl) | (simp only [AV.ren]; congr 1; omega), rfl⟩, ⟨_, rfl, by first | rfl | (simp only [AV.ren]; rfl) | (simp only [AV.ren]; congr 1; omega), rfl⟩, ⟨_, rfl, by first | rfl | (simp only [AV.ren]; rfl) | (simp only [AV.ren]; congr 1; omega), rfl⟩, ⟨_, rfl, by first | rfl | (simp only [AV.ren]; rfl) | (simp only [AV.ren]; congr 1; omega), rfl⟩, ⟨_, rfl, by first | rfl | (simp only [AV.ren]; rfl) | (simp only [AV.ren]; congr 1; omega), rfl⟩, ⟨_, rfl, by (simp only [AV.ren, lwN, List.append_nil]), rfl⟩, ⟨_, rfl, by first | rfl | (simp only [AV.ren]; rfl) | (simp only [AV.ren]; congr 1; omega), rfl⟩, ⟨_, rfl, by first | rfl | (simp only [AV.ren]; rfl) | (simp only [AV.ren]; congr 1; omega), rfl⟩, trivial⟩ ⟨⟨_, _, rfl, rfl, rfl, rfl, id, rfl⟩, ⟨_, _, rfl, rfl, rfl, rfl, id, rfl⟩, ⟨_, _, rfl, rfl, rfl, rfl, id, rfl⟩, ⟨_, _, rfl, rfl, rfl, rfl, id, rfl⟩, ⟨_, _, rfl, rfl, rfl, rfl, id, rfl⟩, ⟨_, _, rfl, rfl, rfl, rfl, id, rfl⟩, trivial⟩) ?_
   rintro ⟨j, hj⟩
   dsimp only
   have hbl := bwN_le (extra.length) j
   have hll := length_lwN (extra.length) j
   refine .seq ?_
   refine .region ?_
   refine .q (op_cmpI rfl rfl rfl) trivial rfl ?_
   refine .nil ?_
   show Ev _ _ _ _ _
   refine .seq ?_
   refine .cond rfl (fun hc81 => ?_) (fun hc81 => ?_)
   ·simp only [decide_eq_true_eq] at hc81
    refine .skip ?_
    show Ev _ _ _ _ _
    refine .seq ?_
    refine .block ?_
    refine .seq ?_
    refine .region ?_
    refine .q (op_move rfl) trivial rfl ?_
    refine .q (op_move rfl) trivial rfl ?_
    refine .q (op_remI rfl rfl ⟨by omega, by omega⟩) trivial rfl ?_
    refine .as (.i64 ((bwN (extra.length) j % 256 : Nat) : Int)) (congrArg AV.i64 (by omega)) ?_
    refine .q (op_conv Tryd.underlying3 Tryd.underlying5 rfl rfl) trivial rfl ?_
    refine .a (ap_build (us := [.u8 (ofI8 ((bwN (extra.length) j % 256 : Nat) : Int))]) (c := .aggB [ofI8 ((bwN (extra.length) j % 256 : Nat) : Int)]) Tryd.underlying28 inf5 rfl (by decide) (by decide) ⟨rfl, rfl, rfl, trivial⟩ rfl) trivial rfl ?_
    refine .q (op_bytes_str Tryd.underlying28 Tryd.underlying5 Tryd.underlying9 rfl rfl rfl (by show 0 + 1 ≤ 1; decide)) trivial rfl ?_
    refine .as (.str [ofI8 ((bwN (extra.length) j % 256 : Nat) : Int)]) rfl ?_
    refine .q (op_addS rfl rfl (by simp only [List.length_append, List.length_singleton, hll]; omega)) trivial rfl ?_
    refine .q (op_assign rfl) trivial rfl ?_
    refine .nil ?_
    show Ev _ _ _ _ _
    refine .region ?_
    refine .q (op_move rfl) trivial rfl ?_
    refine .q (op_quoI rfl rfl ⟨by omega, ⟨by omega, by omega⟩, by omega⟩) trivial rfl ?_
    refine .as (.i64 ((bwN (extra.length) (j + 1) : Nat) : Int)) (congrArg AV.i64 (by simp only [bwN]; omega)) ?_
    refine .q (op_assign rfl) trivial rfl ?_
    refine .nil ?_
    show Ev _ _ _ _ _
    refine .region ?_
    refine .q (op_addI rfl rfl ⟨by omega, by omega⟩) trivial rfl ?_
    refine .q (op_move rfl) trivial rfl ?_
    refine .nil ?_
    exact ⟨⟨j + 1, by omega⟩, by show 8 - (j + 1) < 8 - j; omega, StLe.mk [(1008, 1008), (1032, 1032), (1040, 1040), (1048, 1048)] rfl rfl ⟨⟨_, rfl, by first | rfl | (simp only [AV.ren]; rfl) | (simp only [AV.ren]; congr 1; omega), rfl⟩, ⟨_, rfl, by first | rfl | (simp only [AV.ren]; rfl) | (simp only [AV.ren]; congr 1; omega), rfl⟩, ⟨_, rfl, by first | rfl | (simp only [AV.ren]; rfl) | (simp only [AV.ren]; congr 1; omega), rfl⟩, ⟨_, rfl, by first | rfl | (simp only [AV.ren]; rfl) | (simp only [AV.ren]; congr 1; omega), rfl⟩, ⟨_, rfl, by first | rfl | (simp only [AV.ren]; rfl) | (simp only [AV.ren]; congr 1; omega), rfl⟩, ⟨_, rfl, by first | rfl | (simp only [AV.ren]; rfl) | (simp only [AV.ren]; congr 1; omega), rfl⟩, ⟨_, rfl, by first | rfl | (simp only [AV.ren]; rfl) | (simp only [AV.ren]; congr 1; omega), rfl⟩, ⟨_, rfl, by first | rfl | (simp only [AV.ren]; rfl) | (simp only [AV.ren]; congr 1; omega), rfl⟩, ⟨_, rfl, by first | rfl | (simp only [AV.ren]; rfl) | (simp only [AV.ren]; congr 1; omega), rfl⟩, ⟨_, rfl, by (simp only [AV.ren, lwN, List.append_assoc]), rfl⟩, ⟨_, rfl, by first | rfl | (simp only [AV.ren]; rfl) | (simp only [AV.ren]; congr 1; omega), rfl⟩, ⟨_, rfl, by first | rfl | (simp only [AV.ren]; rfl) | (simp only [AV.ren]; congr 1; omega), rfl⟩, trivial⟩ ⟨⟨_, _, rfl, rfl, rfl, rfl, id, rfl⟩, ⟨_, _, rfl, rfl, rfl, rfl, id, rfl⟩, ⟨_, _, rfl, rfl, rfl, rfl, id, rfl⟩, ⟨_, _, rfl, rfl, rfl, rfl, id, rfl⟩, ⟨_, _, rfl, rfl, rfl, rfl, id, rfl⟩, ⟨_, _, rfl, rfl, rfl, rfl, id, rfl⟩, trivial⟩⟩
   ·simp only [decide_eq_false_iff_not] at hc81
    refine .exit ?_
    show Ev _ _ _ _ _
    have ej : j = 8 := by omega
    refine Ev.weak (st2 := ⟨[(1, .str text), (2, .str extra), (8, .ptr 1008 0), (10, .ptr 1032 0), (11, .str X), (12, .ptr 1040 0), (74, .sl 1048 0 2 1), (75, .i64 2), (76, .i64 0), (13, .str A2)], [(1008, some ⟨.aggB L, 22, true⟩), (1032, some ⟨.aggB Nn, 59, true⟩), (1040, some ⟨.aggB Bk, 26, true⟩), (5, some ⟨.agg32 K256, ek, false⟩), (2, some ⟨.aggI qsTab, e, false⟩), (1048, some ⟨.aggI [((extra.length : Nat) : Int), ((text.length : Nat) : Int)], 3, true⟩)], 1056⟩) (StLe.mk [(1008, 1008), (1032, 1032), (1040, 1040), (1048, 1048)] rfl rfl ⟨⟨_, rfl, by first | rfl | (simp only [AV.ren]; rfl) | (simp only [AV.ren]; congr 1; omega), rfl⟩, ⟨_, rfl, by first | rfl | (simp only [AV.ren]; rfl) | (simp only [AV.ren]; congr 1; omega), rfl⟩, ⟨_, rfl, by first | rfl | (simp only [AV.ren]; rfl) | (simp only [AV.ren]; congr 1; omega), rfl⟩, ⟨_, rfl, by first | rfl | (simp only [AV.ren]; rfl) | (simp only [AV.ren]; congr 1; omega), rfl⟩, ⟨_, rfl, by first | rfl | (simp only [AV.ren]; rfl) | (simp only [AV.ren]; congr 1; omega), rfl⟩, ⟨_, rfl, by first | rfl | (simp only [AV.ren]; rfl) | (simp only [AV.ren]; congr 1; omega), rfl⟩, ⟨_, rfl, by first | rfl | (simp only [AV.ren]; rfl) | (simp only [AV.ren]; congr 1; omega), rfl⟩, ⟨_, rfl, by first | rfl | (simp only [AV.ren]; rfl) | (simp only [AV.ren]; congr 1; omega), rfl⟩, ⟨_, rfl, by first | rfl | (simp only [AV.ren]; rfl) | (simp only [AV.ren]; congr 1; omega), rfl⟩, ⟨_, rfl, by (simp only [AV.ren]; rw [ej, hA2]), rfl⟩, trivial⟩ ⟨⟨_, _, rfl, rfl, rfl, rfl, id, rfl⟩, ⟨_, _, rfl, rfl, rfl, rfl, id, rfl⟩, ⟨_, _, rfl, rfl, rfl, rfl, id, rfl⟩, ⟨_, _, rfl, rfl, rfl, rfl, id, rfl⟩, ⟨_, _, rfl, rfl, rfl, rfl, id, rfl⟩, ⟨_, _, rfl, rfl, rfl, rfl, id, rfl⟩, trivial⟩) ?_
    show Ev _ _ _ _ _
    refine .region ?_
    refine .q (op_addI rfl rfl ⟨by decide, by decide⟩) trivial rfl ?_
    refine .as (.i64 1) rfl ?_
    refine .q (op_move rfl) trivial rfl ?_
    refine .nil ?_
    show Ev _ _ _ _ _
    refine .seq ?_
    refine .region ?_
    refine .q (op_cmpI rfl rfl rfl) trivial rfl ?_
    refine .nil ?_
    show Ev _ _ _ _ _
    refine .seq ?_
    refine .cond_true rfl (rfl) ?_
    refine .skip ?_
    show Ev _ _ _ _ _
    refine .seq ?_
    refine .block ?_
    refine .seq ?_
    refine .region ?_
    refine .q (ap_idx0 Tryd.underlying30 inf3.sz rfl rfl rfl (by decide)) trivial rfl ?_
    refine .q (op_load Tryd.underlying3 rfl rfl rfl rfl (by show 1 < 2; decide)) trivial rfl ?_
    refine .as (.i64 ((text.length : Nat) : Int)) rfl ?_
    refine .q (op_assign rfl) trivial rfl ?_
    refine .nil ?_
    show Ev _ _ _ _ _
    refine .seq ?_
    refine .region ?_
    refine .q (op_move rfl) trivial rfl ?_
    refine .nil ?_
    show Ev _ _ _ _ _
    refine .block ?_
    refine Ev.loop (ι := { q : Nat // q ≤ 8 }) (fun q => ⟨[(1, .str text), (2, .str extra), (8, .ptr 1008 0), (10, .ptr 1032 0), (11, .str X), (12, .ptr 1040 0), (74, .sl 1048 0 2 1), (75, .i64 2), (76, .i64 1), (13, .str (A2 ++ lwN (text.length) q.1)), (15, .i64 ((bwN (text.length) q.1 : Nat) : Int)), (80, .i64 ((q.1 : Nat) : Int))], [(1008, some ⟨.aggB L, 22, true⟩), (1032, some ⟨.aggB Nn, 59, true⟩), (1040, some ⟨.aggB Bk, 26, true⟩), (5, some ⟨.agg32 K256, ek, false⟩), (2, some ⟨.aggI qsTab, e, false⟩), (1048, some ⟨.aggI [((extra.length : Nat) : Int), ((text.length : Nat) : Int)], 3, true⟩)], 1056⟩) (fun q => 8 - q.1) ⟨0, Nat.zero_le _⟩ (StLe.mk [(1008, 1008), (1032, 1032), (1040, 1040), (1048, 1048)] rfl rfl ⟨⟨_, rfl, by first | rfl | (simp only [AV.ren]; rfl) | (simp only [AV.ren]; congr 1; omega), rfl⟩, ⟨_, rfl, by first | rfl | (simp only [AV.ren]; rfl) | (simp only [AV.ren]; congr 1; omega), rfl⟩, ⟨_, rfl, by first | rfl | (simp only [AV.ren]; rfl) | (simp only [AV.ren]; congr 1; omega), rfl⟩, ⟨_, rfl, by first | rfl | (simp only [AV.ren]; rfl) | (simp only [AV.ren]; congr 1; omega), rfl⟩, ⟨_, rfl, by first | rfl | (simp only [AV.ren]; rfl) | (simp only [AV.ren]; congr 1; omega), rfl⟩, ⟨_, rfl, by first | rfl | (simp only [AV.ren]; rfl) | (simp only [AV.ren]; congr 1; omega), rfl⟩, ⟨_, rfl, by first | rfl | (simp only [AV.ren]; rfl) | (simp only [AV.ren]; congr 1; omega), rfl⟩, ⟨_, rfl, by first | rfl | (simp only [AV.ren]; rfl) | (simp only [AV.ren]; congr 1; omega), rfl⟩, ⟨_, rfl, by first | rfl | (simp only [AV.ren]; rfl) | (simp only [AV.ren]; congr 1; omega), rfl⟩, ⟨_, rfl, by (simp only [AV.ren, lwN, List.append_nil]), rfl⟩, ⟨_, rfl, by first | rfl | (simp only [AV.ren]; rfl) | (simp only [AV.ren]; congr 1; omega), rfl⟩, ⟨_, rfl, by first | rfl | (simp only [AV.ren]; rfl) | (simp only [AV.ren]; congr 1; omega), rfl⟩, trivial⟩ ⟨⟨_, _, rfl, rfl, rfl, rfl, id, rfl⟩, ⟨_, _, rfl, rfl, rfl, rfl, id, rfl⟩, ⟨_, _, rfl, rfl, rfl, rfl, id, rfl⟩, ⟨_, _, rfl, rfl, rfl, rfl, id, rfl⟩, ⟨_, _, rfl, rfl, rfl, rfl, id, rfl⟩, ⟨_, _, rfl, rfl, rfl, rfl, id, rfl⟩, trivial⟩) ?_
    rintro ⟨j, hj⟩
    dsimp only
    have hbl := bwN_le (text.length) j
    have hll := length_lwN (text.length) j
    refine .seq ?_
    refine .region ?_
    refine .q (op_cmpI rfl rfl rfl) trivial rfl ?_
    refine .nil ?_
    show Ev _ _ _ _ _
    refine .seq ?_
    refine .cond rfl (fun hc81 => ?_) (fun hc81 => ?_)
    ·simp only [decide_eq_true_eq] at hc81
     refine .skip ?_
     show Ev _ _ _ _ _
     refine .seq ?_
     refine .block ?_
     refine .seq ?_
     refine .region ?_
     refine .q (op_move rfl) trivial rfl ?_
     refine .q (op_move rfl) trivial rfl ?_
     refine .q (op_remI rfl rfl ⟨by omega, by omega⟩) trivial rfl ?_
     refine .as (.i64 ((bwN (text.length) j % 256 : Nat) : Int)) (congrArg AV.i64 (by omega)) ?_
     refine .q (op_conv Tryd.underlying3 Tryd.underlying5 rfl rfl) trivial rfl ?_
     refine .a (ap_build (us := [.u8 (ofI8 ((bwN (text.length) j % 256 : Nat) : Int))]) (c := .aggB [ofI8 ((bwN (text.length) j % 256 : Nat) : Int)]) Tryd.underlying28 inf5 rfl (by decide) (by decide) ⟨rfl, rfl, rfl, trivial⟩ rfl) trivial rfl ?_
     refine .q (op_bytes_str Tryd.underlying28 Tryd.underlying5 Tryd.underlying9 rfl rfl rfl (by show 0 + 1 ≤ 1; decide)) trivial rfl ?_
     refine .as (.str [ofI8 ((bwN (text.length) j % 256 : Nat) : Int)]) rfl ?_
     refine .q (op_addS rfl rfl (by simp only [List.length_append, List.length_singleton, hll]; omega)) trivial rfl ?_
     refine .q (op_assign rfl) trivial rfl ?_
     refine .nil ?_
     show Ev _ _ _ _ _
     refine .region ?_
     refine .q (op_move rfl) trivial rfl ?_
     refine .q (op_quoI rfl rfl ⟨by omega, ⟨by omega, by omega⟩, by omega⟩) trivial rfl ?_
     refine .as (.i64 ((bwN (text.length) (j + 1) : Nat) : Int)) (congrArg AV.i64 (by simp only [bwN]; omega)) ?_
     refine .q (op_assign rfl) trivial rfl ?_
     refine .nil ?_
     show Ev _ _ _ _ _
     refine .region ?_
     refine .q (op_addI rfl rfl ⟨by omega, by omega⟩) trivial rfl ?_
     refine .q (op_move rfl) trivial rfl ?_
     refine .nil ?_
     exact ⟨⟨j + 1, by omega⟩, by show 8 - (j + 1) < 8 - j; omega, StLe.mk [(1008, 1008), (1032, 1032), (1040, 1040), (1048, 1048)] rfl rfl ⟨⟨_, rfl, by first | rfl | (simp only [AV.ren]; rfl) | (simp only [AV.ren]; congr 1; omega), rfl⟩, ⟨_, rfl, by first | rfl | (simp only [AV.ren]; rfl) | (simp only [AV.ren]; congr 1; omega), rfl⟩, ⟨_, rfl, by first | rfl | (simp only [AV.ren]; rfl) | (simp only [AV.ren]; congr 1; omega), rfl⟩, ⟨_, rfl, by first | rfl | (simp only [AV.ren]; rfl) | (simp only [AV.ren]; congr 1; omega), rfl⟩, ⟨_, rfl, by first | rfl | (simp only [AV.ren]; rfl) | (simp only [AV.ren]; congr 1; omega), rfl⟩, ⟨_, rfl, by first | rfl | (simp only [AV.ren]; rfl) | (simp only [AV.ren]; congr 1; omega), rfl⟩, ⟨_, rfl, by first | rfl | (simp only [AV.ren]; rfl) | (simp only [AV.ren]; congr 1; omega), rfl⟩, ⟨_, rfl, by first | rfl | (simp only [AV.ren]; rfl) | (simp only [AV.ren]; congr 1; omega), rfl⟩, ⟨_, rfl, by first | rfl | (simp only [AV.ren]; rfl) | (simp only [AV.ren]; congr 1; omega), rfl⟩, ⟨_, rfl, by (simp only [AV.ren, lwN, List.append_assoc]), rfl⟩, ⟨_, rfl, by first | rfl | (simp only [AV.ren]; rfl) | (simp only [AV.ren]; congr 1; omega), rfl⟩, ⟨_, rfl, by first | rfl | (simp only [AV.ren]; rfl) | (simp only [AV.ren]; congr 1; omega), rfl⟩, trivial⟩ ⟨⟨_, _, rfl, rfl, rfl, rfl, id, rfl⟩, ⟨_, _, rfl, rfl, rfl, rfl, id, rfl⟩, ⟨_, _, rfl, rfl, rfl, rfl, id, rfl⟩, ⟨_, _, rfl, rfl, rfl, rfl, id, rfl⟩, ⟨_, _, rfl, rfl, rfl, rfl, id, rfl⟩, ⟨_, _, rfl, rfl, rfl, rfl, id, rfl⟩, trivial⟩⟩
    ·simp only [decide_eq_false_iff_not] at hc81
     refine .exit ?_
     show Ev _ _ _ _ _
     have ej : j = 8 := by omega
     refine Ev.weak (st2 := ⟨[(1, .str text), (2, .str extra), (8, .ptr 1008 0), (10, .ptr 1032 0), (11, .str X), (12, .ptr 1040 0), (74, .sl 1048 0 2 1), (75, .i64 2), (76, .i64 1), (13, .str A3)], [(1008, some ⟨.aggB L, 22, true⟩), (1032, some ⟨.aggB Nn, 59, true⟩), (1040, some ⟨.aggB Bk, 26, true⟩), (5, some ⟨.agg32 K256, ek, false⟩), (2, some ⟨.aggI qsTab, e, false⟩), (1048, some ⟨.aggI [((extra.length : Nat) : Int), ((text.length : Nat) : Int)], 3, true⟩)], 1056⟩) (StLe.mk [(1008, 1008), (1032, 1032), (1040, 1040), (1048, 1048)] rfl rfl ⟨⟨_, rfl, by first | rfl | (simp only [AV.ren]; rfl) | (simp only [AV.ren]; congr 1; omega), rfl⟩, ⟨_, rfl, by first | rfl | (simp only [AV.ren]; rfl) | (simp only [AV.ren]; congr 1; omega), rfl⟩, ⟨_, rfl, by first | rfl | (simp only [AV.ren]; rfl) | (simp only [AV.ren]; congr 1; omega), rfl⟩, ⟨_, rfl, by first | rfl | (simp only [AV.ren]; rfl) | (simp only [AV.ren]; congr 1; omega), rfl⟩, ⟨_, rfl, by first | rfl | (simp only [AV.ren]; rfl) | (simp only [AV.ren]; congr 1; omega), rfl⟩, ⟨_, rfl, by first | rfl | (simp only [AV.ren]; rfl) | (simp only [AV.ren]; congr 1; omega), rfl⟩, ⟨_, rfl, by first | rfl | (simp only [AV.ren]; rfl) | (simp only [AV.ren]; congr 1; omega), rfl⟩, ⟨_, rfl, by first | rfl | (simp only [AV.ren]; rfl) | (simp only [AV.ren]; congr 1; omega), rfl⟩, ⟨_, rfl, by first | rfl | (simp only [AV.ren]; rfl) | (simp only [AV.ren]; congr 1; omega), rfl⟩, ⟨_, rfl, by (simp only [AV.ren]; rw [ej, hA3]), rfl⟩, trivial⟩ ⟨⟨_, _, rfl, rfl, rfl, rfl, id, rfl⟩, ⟨_, _, rfl, rfl, rfl, rfl, id, rfl⟩, ⟨_, _, rfl, rfl, rfl, rfl, id, rfl⟩, ⟨_, _, rfl, rfl, rfl, rfl, id, rfl⟩, ⟨_, _, rfl, rfl, rfl, rfl, id, rfl⟩, ⟨_, _, rfl, rfl, rfl, rfl, id, rfl⟩, trivial⟩) ?_
     show Ev _ _ _ _ _
     refine .region ?_
     refine .q (op_addI rfl rfl ⟨by decide, by decide⟩) trivial rfl ?_
     refine .as (.i64 2) rfl ?_
     refine .q (op_move rfl) trivial rfl ?_
     refine .nil ?_
     show Ev _ _ _ _ _
     refine .seq ?_
     refine .region ?_
     refine .q (op_cmpI rfl rfl rfl) trivial rfl ?_
     refine .nil ?_
     show Ev _ _ _ _ _
     refine .seq ?_
     refine .cond_false rfl (rfl) ?_
     refine .exit ?_
     show Ev _ _ _ _ _
     refine .seq ?_
     refine .region ?_
     refine .q (ap_slice_arr_hi Tryd.underlying26 inf5.sz rfl rfl (by first | omega | (simp only [AV.len]; omega)) (by decide) (bnd_some rfl rfl) (by first | omega | (simp only [AV.len]; omega))) trivial rfl ?_
     refine .q (op_toArrPtr Tryd.underlying22 rfl (by decide) (by decide)) trivial rfl ?_
     refine .q (op_loadB Tryd.underlying22 rfl sz22 rfl rfl (by omega)) trivial rfl ?_
     refine .as (.aggB O) (congrArg AV.aggB (by rw [List.drop_zero]; exact hO)) ?_
     refine .q (op_move rfl) trivial rfl ?_
     refine .q (op_call (U := []) [] [] (sum_ev O A3 hlO (by omega)) Tryd.func27 (by kernel_rfl) rfl rfl rfl (⟨⟨_, rfl, rfl, rfl⟩, ⟨_, rfl, rfl, rfl⟩, trivial⟩) (trivial) (trivial) (trivial) rfl) trivial rfl ?_
     refine .as (.aggB Tg) (congrArg AV.aggB hTg) ?_
     refine .a (op_allocRow zero63 rel_zero63 rfl) trivial rfl ?_
     refine .w (op_storeRow sz63 rfl rfl rfl rfl rfl (by simp only [AV.len, hlT]) (by simp only [AV.len, List.length_replicate])) trivial rfl ?_
     refine .nil ?_
     show Ev _ _ _ _ _
     refine .seq ?_
     refine .drawn [[], [], [], [], [3], [2, 3, 4], [], [0, 1, 2, 3, 4, 5, 6], [0, 1, 2, 3, 4, 5, 6, 7], [0, 1, 2, 3, 4, 5, 6, 7, 8], [0, 1, 2, 3, 4, 5, 6, 7, 8], [0, 1, 2, 3, 4, 5, 6, 7, 8, 9], [0, 1, 2, 3, 4, 5, 6, 7, 8, 9, 10, 11]] [0, 1, 3, 4, 7] [] (by kernel_rfl) (by kernel_rfl) rfl ?_
     show DK _ [0, 1, 2, 3, 4, 5, 6, 7, 8, 9, 10, 11, 12] _ _ _
     refine .q rfl (op_loadRow Tryd.underlying22 rfl sz22 rfl rfl rfl (hlL)) trivial ?_
     refine .q rfl (op_loadRow Tryd.underlying59 rfl sz59 rfl rfl rfl (hlN)) trivial ?_
     refine .q rfl (op_move rfl) trivial ?_
     refine .q rfl (ap_slice_arr_hi Tryd.underlying63 inf5.sz rfl rfl (by first | omega | (simp only [AV.len]; omega)) (by decide) rfl (by first | omega | (simp only [AV.len]; omega))) trivial ?_
     refine .q rfl (op_bytes_str Tryd.underlying28 Tryd.underlying5 Tryd.underlying9 rfl rfl rfl (by omega)) trivial ?_
     refine .as (.str Tg) (congrArg AV.str (drop_take_all2 Tg 16 hlT)) ?_
     refine .q rfl (op_addS rfl rfl (by omega)) trivial ?_
     refine .q rfl (op_move rfl) trivial ?_
     refine .q rfl (op_call (U := []) [] [] (open_ok e L Nn (X ++ Tg) extra hlL hlN (by simp only [List.length_append]; omega) (by omega) (by simp only [List.length_append]; omega) hOpen) Tryd.func28 (by kernel_rfl) rfl rfl rfl (⟨⟨_, rfl, rfl, rfl⟩, ⟨_, rfl, rfl, rfl⟩, ⟨_, rfl, rfl, rfl⟩, ⟨_, rfl, rfl, rfl⟩, trivial⟩) (⟨⟨_, _, rfl, rfl, rfl, rfl, id, rfl⟩, trivial⟩) (trivial) (⟨(fun h => by cases h), trivial⟩) rfl) trivial ?_
     refine .as (.tup [.str text, .val .nilIface]) (by rw [hBack]; rfl) ?_
     refine .q rfl (op_move rfl) trivial ?_
     refine .q rfl (op_extract rfl rfl) trivial ?_
     refine .q rfl (op_extract rfl rfl) trivial ?_
     refine .q rfl (op_assign rfl) trivial ?_
     refine .q rfl (op_assign rfl) trivial ?_
     refine .nil ?_
     show Ev _ _ _ _ _
     refine .seq ?_
     refine .drawn [[], [], [], [], [0, 1, 2, 3], [], [], [6], [5, 6, 7], [0, 1, 2, 3, 4, 5, 6, 7, 8], [0, 1, 2, 3, 4, 5, 6, 7, 8, 9], [0, 1, 2, 3, 4, 5, 6, 7, 8, 9, 10], [0, 1, 2, 3, 4, 5, 6, 7, 8, 9, 10], [0, 1, 2, 3, 4, 5, 6, 7, 8, 9, 10, 11, 12], [0, 1, 2, 3, 4, 5, 6, 7, 8, 9, 10, 11, 12, 13], [0, 1, 2, 3, 4, 5, 6, 7, 8, 9, 10, 11, 12, 13, 14], [0, 1, 2, 3, 4, 5, 6, 7, 8, 9, 10, 11, 12, 13, 14, 15], [0, 1, 2, 3, 4, 5, 6, 7, 8, 9, 10, 11, 12, 13, 14, 15, 16], [0, 1, 2, 3, 4, 5, 6, 7, 8, 9, 10, 11, 12, 13, 14, 15, 16, 17], [0, 1, 2, 3, 4, 5, 6, 7, 8, 9, 10, 11, 12, 13, 14, 15, 16, 17, 18]] [0, 1, 4, 6, 7] [] (by kernel_rfl) (by kernel_rfl) rfl ?_
     show DK _ [0, 1, 2, 3, 4, 5, 6, 7, 8, 9, 10, 11, 12, 13, 14, 15, 16, 17, 18, 19] _ _ _
     refine .q rfl (op_loadRow Tryd.underlying22 rfl sz22 rfl rfl rfl (hlL)) trivial ?_
     refine .q rfl (op_loadRow Tryd.underlying59 rfl sz59 rfl rfl rfl (hlN)) trivial ?_
     refine .q rfl (op_move rfl) trivial ?_
     refine .q rfl (op_move rfl) trivial ?_
     refine .q rfl (op_call (U := []) [] [] (seal_ev e L Nn text extra hlL hlN (by omega) (by omega)) Tryd.func29 (by kernel_rfl) rfl rfl rfl (⟨⟨_, rfl, rfl, rfl⟩, ⟨_, rfl, rfl, rfl⟩, ⟨_, rfl, rfl, rfl⟩, ⟨_, rfl, rfl, rfl⟩, trivial⟩) (⟨⟨_, _, rfl, rfl, rfl, rfl, id, rfl⟩, trivial⟩) (trivial) (⟨(fun h => by cases h), trivial⟩) rfl) trivial ?_
     refine .as (.str (X ++ Tg)) (congrArg AV.str hSeal) ?_
     refine .q rfl (op_move rfl) trivial ?_
     refine .q rfl (ap_slice_arr_hi Tryd.underlying63 inf5.sz rfl rfl (by first | omega | (simp only [AV.len]; omega)) (by decide) rfl (by first | omega | (simp only [AV.len]; omega))) trivial ?_
     refine .q rfl (op_bytes_str Tryd.underlying28 Tryd.underlying5 Tryd.underlying9 rfl rfl rfl (by omega)) trivial ?_
     refine .as (.str Tg) (congrArg AV.str (drop_take_all2 Tg 16 hlT)) ?_
     refine .q rfl (op_addS rfl rfl (by omega)) trivial ?_
     refine .q rfl (op_eqS rfl rfl rfl) trivial ?_
     refine .as (.bool true) (congrArg AV.bool (by simp)) ?_
     refine .q rfl (op_move rfl) trivial ?_
     refine .know (b' := true) (rfl) ?_
     refine .q rfl (op_move rfl) ⟨_, rfl, rfl⟩ ?_
     refine .q rfl (op_move rfl) ⟨_, rfl, rfl⟩ ?_
     refine .q rfl (op_eqS rfl rfl rfl) ⟨_, rfl, rfl⟩ ?_
     refine .as (.bool true) (congrArg AV.bool (by simp)) ?_
     refine .q rfl (op_pick_true rfl rfl rfl) trivial ?_
     refine .q rfl (op_move rfl) trivial ?_
     refine .know (b' := true) (rfl) ?_
     refine .q rfl (op_move rfl) ⟨_, rfl, rfl⟩ ?_
     refine .q rfl (op_isNil Tryd.underlying43 rfl) ⟨_, rfl, rfl⟩ ?_
     refine .q rfl (op_pick_true rfl rfl rfl) trivial ?_
     refine .q rfl (op_assign rfl) trivial ?_
     refine .nil ?_
     show Ev _ _ _ _ _
     refine .ret ?_
     show RetOk _ _ _ _ _ _ _
     exact ret1v rfl (.inl rfl) rfl rfl trivial
theorem speakSealed_ev (e ek : Nat) (s0 s1 s2 : List UInt8) (h0 : s0.length ≤ maxLen) (h1 : s1.length ≤ maxLen) (h2 : s2.length ≤ maxLen) : Meets Tryd.prog 5 [.str s0, .str s1, .str s2] [(5, some ⟨.agg32 K256, ek, false⟩), (2, some ⟨.aggI qsTab, e, false⟩)] (.bool true) [] := by
 obtain ⟨key, hkey⟩ : ∃ z, s0.take 80 = z := ⟨_, rfl⟩
 obtain ⟨text, htext⟩ : ∃ z, s1.take 150 = z := ⟨_, rfl⟩
 obtain ⟨extra, hextra⟩ : ∃ z, s2.take 50 = z := ⟨_, rfl⟩
 have hkl : key.length ≤ 1000000 := by rw [← hkey, List.length_take]; omega
 have htl : text.length ≤ 150 := by rw [← htext, List.length_take]; omega
 have hel : extra.length ≤ 50 := by rw [← hextra, List.length_take]; omega
 obtain ⟨L, hL⟩ : ∃ z, spr1 key [108, 111, 99, 107] = z := ⟨_, rfl⟩
 obtain ⟨Q, hQ⟩ : ∃ z, spr2 key [108, 111, 99, 107] = z := ⟨_, rfl⟩
 have hlL : L.length = 32 := by rw [← hL]; exact length_hmacN _ _
 have hlQ : Q.length = 32 := by rw [← hQ]; exact length_hmacN _ _
 obtain ⟨Sm, hSm⟩ : ∃ z, sha256 extra = z := ⟨_, rfl⟩
 have hlS : Sm.length = 32 := by rw [← hSm]; exact length_sha256 _
 obtain ⟨Nn, hNn⟩ : ∃ z, Sm.take 12 = z := ⟨_, rfl⟩
 have hlN : Nn.length = 12 := by rw [← hNn, List.length_take]; omega
 obtain ⟨X, hX⟩ : ∃ z, cXor L (UInt32.ofNat 1) Nn text = z := ⟨_, rfl⟩
 have hlX : X.length = text.length := by rw [← hX]; exact length_cXor _ _ _ _
 obtain ⟨Bk, hBk⟩ : ∃ z, cBlock L (UInt32.ofNat 0) Nn = z := ⟨_, rfl⟩
 have hlB : Bk.length = 64 := by rw [← hBk]; exact length_cBlk _ _ _
 obtain ⟨Z1, hZ1⟩ : ∃ z, z = (16 - extra.length % 16) % 16 := ⟨_, rfl⟩
 obtain ⟨E1, hE1⟩ : ∃ z, extra ++ List.replicate Z1 0 = z := ⟨_, rfl⟩
 obtain ⟨E2, hE2⟩ : ∃ z, E1 ++ X = z := ⟨_, rfl⟩
 obtain ⟨Z2, hZ2⟩ : ∃ z, z = (16 - E2.length % 16) % 16 := ⟨_, rfl⟩
 obtain ⟨E3, hE3⟩ : ∃ z, E2 ++ List.replicate Z2 0 = z := ⟨_, rfl⟩
 obtain ⟨A2, hA2⟩ : ∃ z, E3 ++ lwN extra.length 8 = z := ⟨_, rfl⟩
 obtain ⟨A3, hA3⟩ : ∃ z, A2 ++ lwN text.length 8 = z := ⟨_, rfl⟩
 have hl1 : E1.length = extra.length + Z1 := by rw [← hE1, List.length_append, List.length_replicate]
 have hl2 : E2.length = E1.length + X.length := by rw [← hE2, List.length_append]
 have hl3 : E3.length = E2.length + Z2 := by rw [← hE3, List.length_append, List.length_replicate]
 have hl4 : A2.length = E3.length + 8 := by rw [← hA2, List.length_append, length_lwN]
 have hl5 : A3.length = A2.length + 8 := by rw [← hA3, List.length_append, length_lwN]
 obtain ⟨O, hO⟩ : ∃ z, Bk.take 32 = z := ⟨_, rfl⟩
 have hlO : O.length = 32 := by rw [← hO, List.length_take]; omega
 obtain ⟨Tg, hTg⟩ : ∃ z, sumL O A3 = z := ⟨_, rfl⟩
 have hlT : Tg.length = 16 := by rw [← hTg]; exact length_sumL _ _
 have hM : A3 = macIn X extra := by
  rw [← hA3, ← hA2]
  exact mac_text X extra text E1 E3 Z1 Z2 hlX hE1 hZ1 (by rw [hE2]; exact hE3) (by rw [hE2]; exact hZ2) (by omega) (by omega)
 have hTag : Tg = tagL L Nn X extra := by
  unfold tagL onceL
  rw [← hTg, hM, ← hO, ← hBk]
 have hn : (X ++ Tg).length - 16 = X.length := by rw [List.length_append]; omega
 have htk : (X ++ Tg).take ((X ++ Tg).length - 16) = X := by rw [hn, List.take_append_of_le_length (Nat.le_refl _), List.take_length]
 have hdr : (X ++ Tg).drop ((X ++ Tg).length - 16) = Tg := by rw [hn, List.drop_left]
 refine sealed_gen e ek s0 s1 s2 key text extra L Q Sm Nn X Bk E1 E2 E3 A2 A3 O Tg Z1 Z2 h0 h1 h2 hkey htext hextra hkl htl hel hL hQ hlL hlQ hSm hlS hNn hlN hX hlX hBk hlB hZ1 hE1 hE2 hZ2 hE3 hA2 hA3 (by omega) (by omega) (by omega) (by omega) (by omega) hO hlO hTg hlT ?_ ?_ ?_
 ·rw [htk, hdr]; exact hTag
 ·rw [htk, ← hX]; exact cXor_twice _ _ _ _
 ·unfold sealL; rw [hX, ← hTag]
end Go.Proofs.YtcnjekoidgefpaaDoor
