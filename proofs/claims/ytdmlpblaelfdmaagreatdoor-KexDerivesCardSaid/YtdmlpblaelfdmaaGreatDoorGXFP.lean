/-
  Texts of this claim.
-/
import Derived.Test.YtdmlpblaelfdmaaGreatDoorGXDP
namespace Go.Proofs.YtdmlpblaelfdmaaGreatDoor
open Go.RowKit
/-- What is left of a number behind so many bytes. -/
def bN (b : Nat) : Nat → Nat
  | 0 => b
  | j + 1 => bN b j / 256
/-- A number's last bytes. -/
def tlN (b : Nat) : Nat → List UInt8
  | 0 => []
  | j + 1 => [ofI8 ((bN b j % 256 : Nat) : Int)] ++ tlN b j
theorem length_tlN (b j : Nat) : (tlN b j).length = j := by
  induction j with
  | zero => rfl
  | succ j ih => simp [tlN, ih]
theorem bN_eq (b j : Nat) : bN b j = b / 256 ^ j := by
  induction j with
  | zero => simp [bN]
  | succ j ih => rw [bN, ih, Nat.div_div_eq_div_mul, Nat.pow_succ]
theorem bN_le (b j : Nat) : bN b j ≤ b := by rw [bN_eq]; exact Nat.div_le_self _ _
theorem tl_byte (b k : Nat) (hb : b < 2 ^ 64) (hk : k < 8) : ofI8 ((bN b k % 256 : Nat) : Int) = byte64 (UInt64.ofNat b) k := by
  have hm : bN b k % 256 < 256 := Nat.mod_lt _ (by decide)
  have h8 : 8 * k < 64 := by omega
  unfold byte64
  apply UInt8.toNat_inj.1
  rw [UInt64.toNat_toUInt8, UInt64.toNat_shiftRight, UInt64.toNat_ofNat_of_lt' hb, UInt64.toNat_ofNat_of_lt' (show 8 * k < 2 ^ 64 by omega), Nat.mod_eq_of_lt h8, Nat.shiftRight_eq_div_pow, Nat.pow_mul, show 2 ^ 8 = 256 from rfl, ← bN_eq]
  have h1 := ofI8_toNat ((bN b k % 256 : Nat) : Int)
  omega
theorem tl_get (b : Nat) (hb : b < 2 ^ 64) : ∀ (n q : Nat), n ≤ 8 → q < n → (tlN b n)[q]? = some (byte64 (UInt64.ofNat b) (n - 1 - q))
  | n + 1, 0, hn, _ => by rw [tlN, tl_byte b n hb (by omega)]; simp
  | n + 1, q + 1, hn, hq => by
    rw [tlN, List.singleton_append, List.getElem?_cons_succ, tl_get b hb n q (by omega) (by omega)]
    congr 2; omega
theorem sum_text (s : List UInt8) (Z : Nat) (hZ : Z = (64 - (s.length + 9) % 64) % 64) (hs : s.length ≤ 1000000) : s ++ [128] ++ List.replicate Z 0 ++ tlN (8 * s.length) 8 = s ++ padBytes (padLen 64 s.length) s.length := by
  have hp : padLen 64 s.length = 9 + Z := by unfold padLen; rw [hZ]
  rw [hp, List.append_assoc, List.append_assoc]
  congr 1
  refine List.ext_getElem? fun i => ?_
  simp only [padBytes, List.getElem?_map]
  by_cases h : i < 9 + Z
  · rw [List.getElem?_range h]
    simp only [Option.map_some]
    by_cases h0 : i = 0
    · subst h0
      rw [if_neg (by omega), if_pos rfl]; rfl
    · obtain ⟨q, rfl⟩ : ∃ q, i = q + 1 := ⟨i - 1, by omega⟩
      rw [List.singleton_append, List.getElem?_cons_succ]
      by_cases h1 : q < Z
      · rw [List.getElem?_append_left (by simpa using h1), List.getElem?_replicate, if_pos h1, if_neg (by omega), if_neg (by omega)]
      · rw [List.getElem?_append_right (by simpa using h1), List.length_replicate, tl_get _ (by omega) 8 _ (by omega) (by omega), if_pos (by omega), Nat.mul_comm 8]
        congr 2; omega
  · rw [List.getElem?_eq_none (by simp [length_tlN]; omega), List.getElem?_eq_none (by simp; omega)]; rfl
/-- Words, the first of them halved. -/
def dvN (l : List UInt64) : Nat → List UInt64
  | 0 => l
  | j + 1 => (dvN l j).set j ((dvN l j).getD j 0 / 4294967296)
theorem length_dvN (l : List UInt64) (j : Nat) : (dvN l j).length = l.length := by
  induction j with
  | zero => rfl
  | succ j ih => simp [dvN, ih]
theorem dv_all : dvN (stR rstart64) 8 = stR rstart32 := rfl
theorem stR_word (s : St64) (i : Nat) (h : i < 8) : (stR s).getD i 0 = stN64 s i := by
  match i, h with
  | 0, _ => rfl
  | 1, _ => rfl
  | 2, _ => rfl
  | 3, _ => rfl
  | 4, _ => rfl
  | 5, _ => rfl
  | 6, _ => rfl
  | 7, _ => rfl
  | i + 8, h => omega
theorem rdig_step (s : St64) (i : Nat) : rdig32 s i ++ [byte64 (stN64 s i) 3] ++ [byte64 (stN64 s i) 2] ++ [byte64 (stN64 s i) 1] ++ [byte64 (stN64 s i) 0] = rdig32 s (i + 1) := by
  rw [rdig32, List.append_assoc, List.append_assoc, List.append_assoc]; rfl
theorem length_rdig (s : St64) (i : Nat) : (rdig32 s i).length = 4 * i := by
  induction i with
  | zero => rfl
  | succ i ih => rw [rdig32, List.length_append, ih]; simp [rpart32]; omega
set_option maxHeartbeats 1000000 in
set_option maxRecDepth 100000 in
theorem rsum_ev (s : List UInt8) (hs : s.length ≤ 1000000) : Meets Tryz.prog 87 [.str s, .i64 32] [] (.str (rsum32 s)) [] := by
 obtain ⟨Z, hZ⟩ : ∃ Z, Z = (64 - (s.length + 9) % 64) % 64 := ⟨_, rfl⟩
 obtain ⟨T, hT⟩ : ∃ T, s ++ [128] ++ List.replicate Z 0 ++ tlN (8 * s.length) 8 = T := ⟨_, rfl⟩
 have hTl : T.length = s.length + 9 + Z := by rw [← hT]; simp only [List.length_append, List.length_singleton, List.length_replicate, length_tlN]; omega
 have hTm : T.length % 64 = 0 := by omega
 obtain ⟨st, hst⟩ : ∃ st, rblocks32 rstart32 T (T.length / 64) = st := ⟨_, rfl⟩
 have hsum : rdig32 st 8 = rsum32 s := by rw [← hst, ← hT, sum_text s Z hZ hs]; rfl
 refine meets_of_ev (nt := 123) Tryz.func87 rfl rfl (Nat.le_of_ble_eq_true rfl) ?_
 refine .seq ?_
 refine .region ?_
 refine .q (op_assign rfl) trivial rfl ?_
 refine .nil ?_
 show Ev _ _ _ _ _
 refine .seq ?_
 refine .region ?_
 refine .q (op_move rfl) trivial rfl ?_
 refine .q (op_mulI rfl rfl ⟨by decide, by decide⟩) trivial rfl ?_
 refine .as (.i64 64) rfl ?_
 refine .q (op_assign rfl) trivial rfl ?_
 refine .nil ?_
 show Ev _ _ _ _ _
 refine .seq ?_
 refine .region ?_
 refine .q (op_move rfl) trivial rfl ?_
 refine .q (op_len_str Tryz.underlying9 rfl) trivial rfl ?_
 refine .q (op_mulI rfl rfl ⟨by omega, by omega⟩) trivial rfl ?_
 refine .as (.i64 ((8 * s.length : Nat) : Int)) (congrArg AV.i64 (by omega)) ?_
 refine .q (op_assign rfl) trivial rfl ?_
 refine .nil ?_
 show Ev _ _ _ _ _
 refine .seq ?_
 refine .region ?_
 refine .q (op_move rfl) trivial rfl ?_
 refine .a (ap_build (us := [.u8 128]) (c := .aggB [128]) Tryz.underlying33 inf5 rfl (by decide) (by decide) ⟨rfl, rfl, rfl, trivial⟩ rfl) trivial rfl ?_
 refine .q (op_bytes_str Tryz.underlying33 Tryz.underlying5 Tryz.underlying9 rfl rfl rfl (by show 0 + 1 ≤ 1; decide)) trivial rfl ?_
 refine .as (.str [128]) rfl ?_
 refine .q (op_addS rfl rfl (by first | (simp only [List.length_singleton]; omega) | omega)) trivial rfl ?_
 refine .q (op_assign rfl) trivial rfl ?_
 refine .nil ?_
 show Ev _ _ _ _ _
 refine .seq ?_
 refine .block ?_
 refine Ev.loop (ι := { j : Nat // j ≤ Z }) (fun q => ⟨[(0, .str (s ++ [128] ++ List.replicate q.1 0)), (1, .i64 32), (5, .i64 64), (6, .i64 ((8 * s.length : Nat) : Int))], [], 1008⟩) (fun q => Z - q.1) ⟨0, Nat.zero_le _⟩ (StLe.mk [] rfl rfl ⟨⟨_, rfl, by (simp only [AV.ren, List.replicate_zero, List.append_nil]), rfl⟩, ⟨_, rfl, by first | rfl | (simp only [AV.ren]; rfl) | (simp only [AV.ren]; congr 1; omega), rfl⟩, ⟨_, rfl, by first | rfl | (simp only [AV.ren]; rfl) | (simp only [AV.ren]; congr 1; omega), rfl⟩, ⟨_, rfl, by first | rfl | (simp only [AV.ren]; rfl) | (simp only [AV.ren]; congr 1; omega), rfl⟩, trivial⟩ trivial) ?_
 rintro ⟨j, hj⟩
 try dsimp only
 refine .seq ?_
 refine .seq ?_
 refine .region ?_
 refine .q (op_move rfl) trivial rfl ?_
 refine .q (op_len_str Tryz.underlying9 rfl) trivial rfl ?_
 refine .as (.i64 ((s.length + 1 + j : Nat) : Int)) (congrArg AV.i64 (by simp; omega)) ?_
 refine .q (op_move rfl) trivial rfl ?_
 refine .q (op_quoI rfl rfl ⟨by decide, ⟨by decide, by decide⟩, by decide⟩) trivial rfl ?_
 refine .as (.i64 8) rfl ?_
 refine .q (op_addI rfl rfl ⟨by omega, by omega⟩) trivial rfl ?_
 refine .as (.i64 ((s.length + 9 + j : Nat) : Int)) (congrArg AV.i64 (by omega)) ?_
 refine .q (op_move rfl) trivial rfl ?_
 refine .q (op_remI rfl rfl ⟨by omega, by omega⟩) trivial rfl ?_
 refine .as (.i64 (((s.length + 9 + j) % 64 : Nat) : Int)) (congrArg AV.i64 (by omega)) ?_
 refine .q (op_cmpI rfl rfl rfl) trivial rfl ?_
 refine .nil ?_
 show Ev _ _ _ _ _
 refine .cond rfl (fun hc33 => ?_) (fun hc33 => ?_)
 ·simp only [bne_iff_ne, ne_eq] at hc33
  refine .skip ?_
  show Ev _ _ _ _ _
  refine .block ?_
  refine .region ?_
  refine .q (op_move rfl) trivial rfl ?_
  refine .a (ap_build (us := [.u8 0]) (c := .aggB [0]) Tryz.underlying33 inf5 rfl (by decide) (by decide) ⟨rfl, rfl, rfl, trivial⟩ rfl) trivial rfl ?_
  refine .q (op_bytes_str Tryz.underlying33 Tryz.underlying5 Tryz.underlying9 rfl rfl rfl (by show 0 + 1 ≤ 1; decide)) trivial rfl ?_
  refine .as (.str [0]) rfl ?_
  refine .q (op_addS rfl rfl (by simp only [List.length_append, List.length_singleton, List.length_replicate]; omega)) trivial rfl ?_
  refine .q (op_assign rfl) trivial rfl ?_
  refine .nil ?_
  exact ⟨⟨j + 1, by omega⟩, by (try dsimp only); omega, StLe.mk [] rfl rfl ⟨⟨_, rfl, by (simp only [AV.ren, List.replicate_succ', List.append_assoc]), rfl⟩, ⟨_, rfl, by first | rfl | (simp only [AV.ren]; rfl) | (simp only [AV.ren]; congr 1; omega), rfl⟩, ⟨_, rfl, by first | rfl | (simp only [AV.ren]; rfl) | (simp only [AV.ren]; congr 1; omega), rfl⟩, ⟨_, rfl, by first | rfl | (simp only [AV.ren]; rfl) | (simp only [AV.ren]; congr 1; omega), rfl⟩, trivial⟩ trivial⟩
 ·simp only [bne_eq_false_iff_eq] at hc33
  refine .exit ?_
  show Ev _ _ _ _ _
  have hjZ : j = Z := by omega
  refine Ev.weak (st2 := ⟨[(0, .str (s ++ [128] ++ List.replicate Z 0)), (1, .i64 32), (5, .i64 64), (6, .i64 ((8 * s.length : Nat) : Int))], [], 1008⟩) (StLe.mk [] rfl rfl ⟨⟨_, rfl, by (simp only [AV.ren]; rw [hjZ]), rfl⟩, ⟨_, rfl, by first | rfl | (simp only [AV.ren]; rfl) | (simp only [AV.ren]; congr 1; omega), rfl⟩, ⟨_, rfl, by first | rfl | (simp only [AV.ren]; rfl) | (simp only [AV.ren]; congr 1; omega), rfl⟩, ⟨_, rfl, by first | rfl | (simp only [AV.ren]; rfl) | (simp only [AV.ren]; congr 1; omega), rfl⟩, trivial⟩ trivial) ?_
  show Ev _ _ _ _ _
  refine .seq ?_
  refine .seq ?_
  refine .region ?_
  refine .q (op_assign rfl) trivial rfl ?_
  refine .nil ?_
  show Ev _ _ _ _ _
  refine .block ?_
  refine Ev.rounds 1 ?_
  show Ev _ _ _ _ _
  refine .seq ?_
  refine .seq ?_
  refine .region ?_
  refine .q (op_move rfl) trivial rfl ?_
  refine .q (op_move rfl) trivial rfl ?_
  refine .q (op_quoI rfl rfl ⟨by decide, ⟨by decide, by decide⟩, by decide⟩) trivial rfl ?_
  refine .as (.i64 8) rfl ?_
  refine .q (op_cmpI rfl rfl rfl) trivial rfl ?_
  refine .nil ?_
  show Ev _ _ _ _ _
  refine .cond_false rfl (rfl) ?_
  refine .exit ?_
  show Ev _ _ _ _ _
  refine .seq ?_
  refine .region ?_
  refine .a (ap_build0 (z := 1) (c := .aggB []) Tryz.underlying33 inf5 rfl) trivial rfl ?_
  refine .q (op_assign rfl) trivial rfl ?_
  refine .nil ?_
  show Ev _ _ _ _ _
  refine .seq ?_
  refine .seq ?_
  refine .region ?_
  refine .q (op_assign rfl) trivial rfl ?_
  refine .nil ?_
  show Ev _ _ _ _ _
  refine .block ?_
  refine Ev.loop (ι := { q : Nat // q ≤ 8 }) (fun q => ⟨[(0, .str (s ++ [128] ++ List.replicate Z 0)), (1, .i64 32), (5, .i64 64), (6, .i64 ((bN (8 * s.length) q.1 : Nat) : Int)), (8, .sl 1008 0 q.1 1), (9, .i64 ((q.1 : Nat) : Int))], [(1008, some ⟨.aggB (tlN (8 * s.length) q.1), 5, true⟩)], 1016⟩) (fun q => 8 - q.1) ⟨0, Nat.zero_le _⟩ (StLe.mk [(1008, 1008)] rfl rfl ⟨⟨_, rfl, by first | rfl | (simp only [AV.ren]; congr 1; omega), rfl⟩, ⟨_, rfl, by first | rfl | (simp only [AV.ren]; congr 1; omega), rfl⟩, ⟨_, rfl, by first | rfl | (simp only [AV.ren]; congr 1; omega), rfl⟩, ⟨_, rfl, by first | rfl | (simp only [AV.ren]; congr 1; omega), rfl⟩, ⟨_, rfl, by first | rfl | (simp only [AV.ren]; congr 1; omega), rfl⟩, ⟨_, rfl, by first | rfl | (simp only [AV.ren]; congr 1; omega), rfl⟩, trivial⟩ ⟨⟨_, _, rfl, rfl, by first | rfl | (simp only [AV.ren]; congr 1; omega), rfl, id, rfl⟩, trivial⟩) ?_
  rintro ⟨j, hj⟩
  dsimp only
  have hbl := bN_le (8 * s.length) j
  have htl := length_tlN (8 * s.length) j
  refine .seq ?_
  refine .seq ?_
  refine .region ?_
  refine .q (op_move rfl) trivial rfl ?_
  refine .q (op_cmpI rfl rfl rfl) trivial rfl ?_
  refine .nil ?_
  show Ev _ _ _ _ _
  refine .cond rfl (fun hc50 => ?_) (fun hc50 => ?_)
  ·simp only [decide_eq_true_eq] at hc50
   refine .skip ?_
   show Ev _ _ _ _ _
   refine .seq ?_
   refine .block ?_
   refine .seq ?_
   refine .region ?_
   refine .q (op_move rfl) trivial rfl ?_
   refine .q (op_remI rfl rfl ⟨by omega, by omega⟩) trivial rfl ?_
   refine .as (.i64 ((bN (8 * s.length) j % 256 : Nat) : Int)) (congrArg AV.i64 (by omega)) ?_
   refine .q (op_conv Tryz.underlying3 Tryz.underlying5 rfl rfl) trivial rfl ?_
   refine .a (ap_build (us := [.u8 (ofI8 ((bN (8 * s.length) j % 256 : Nat) : Int))]) (c := .aggB [ofI8 ((bN (8 * s.length) j % 256 : Nat) : Int)]) Tryz.underlying33 inf5 rfl (by decide) (by decide) ⟨rfl, rfl, rfl, trivial⟩ rfl) trivial rfl ?_
   refine .q (op_move rfl) trivial rfl ?_
   refine .a (ap_cat Tryz.underlying33 inf5 rfl rfl rfl rfl (by first | (simp only [AV.len, List.length_singleton]; done) | (simp only [AV.len]; omega) | omega) rfl rfl (by first | (simp only [AV.len]; done) | (simp only [AV.len]; omega) | omega) rfl (by first | (simp only [AV.len, List.length_singleton]; done) | (simp only [AV.len]; omega) | omega)) trivial rfl ?_
   refine .q (op_assign rfl) trivial rfl ?_
   refine .nil ?_
   show Ev _ _ _ _ _
   refine .region ?_
   refine .q (op_move rfl) trivial rfl ?_
   refine .q (op_quoI rfl rfl ⟨by omega, ⟨by omega, by omega⟩, by omega⟩) trivial rfl ?_
   refine .as (.i64 ((bN (8 * s.length) (j + 1) : Nat) : Int)) (congrArg AV.i64 (by simp only [bN]; omega)) ?_
   refine .q (op_assign rfl) trivial rfl ?_
   refine .nil ?_
   show Ev _ _ _ _ _
   refine .region ?_
   refine .q (op_move rfl) trivial rfl ?_
   refine .q (op_addI rfl rfl ⟨by omega, by omega⟩) trivial rfl ?_
   refine .q (op_assign rfl) trivial rfl ?_
   refine .nil ?_
   exact ⟨⟨j + 1, by omega⟩, by show 8 - (j + 1) < 8 - j; omega, StLe.mk [(1008, 1024)] rfl rfl ⟨⟨_, rfl, by first | rfl | (simp only [AV.ren]; congr 1; omega), rfl⟩, ⟨_, rfl, by first | rfl | (simp only [AV.ren]; congr 1; omega), rfl⟩, ⟨_, rfl, by first | rfl | (simp only [AV.ren]; congr 1; omega), rfl⟩, ⟨_, rfl, by first | rfl | (simp only [AV.ren]; congr 1; omega), rfl⟩, ⟨_, rfl, by first | rfl | (simp only [AV.ren]; congr 1; omega), rfl⟩, ⟨_, rfl, by first | rfl | (simp only [AV.ren]; congr 1; omega), rfl⟩, trivial⟩ ⟨⟨_, _, rfl, rfl, rfl, rfl, id, rfl⟩, trivial⟩⟩
  ·simp only [decide_eq_false_iff_not] at hc50
   refine .exit ?_
   show Ev _ _ _ _ _
   have ej : j = 8 := by omega
   refine Ev.weak (st2 := ⟨[(0, .str (s ++ [128] ++ List.replicate Z 0)), (1, .i64 32), (5, .i64 64), (6, .i64 ((bN (8 * s.length) (8) : Nat) : Int)), (8, .sl 1008 0 (8) 1), (9, .i64 (((8) : Nat) : Int))], [(1008, some ⟨.aggB (tlN (8 * s.length) (8)), 5, true⟩)], 1016⟩) (StLe.mk [(1008, 1008)] rfl rfl ⟨⟨_, rfl, by first | (simp only [AV.ren]; done) | (simp only [AV.ren]; rw [ej]; done) | rfl, rfl⟩, ⟨_, rfl, by first | (simp only [AV.ren]; done) | (simp only [AV.ren]; rw [ej]; done) | rfl, rfl⟩, ⟨_, rfl, by first | (simp only [AV.ren]; done) | (simp only [AV.ren]; rw [ej]; done) | rfl, rfl⟩, ⟨_, rfl, by (rw [ej]; rfl), rfl⟩, ⟨_, rfl, by (show AV.sl 1008 0 j 1 = AV.sl 1008 0 8 1; rw [ej]), rfl⟩, ⟨_, rfl, by first | (simp only [AV.ren]; done) | (simp only [AV.ren]; rw [ej]; done) | rfl, rfl⟩, trivial⟩ ⟨⟨_, _, rfl, rfl, by first | (simp only [AV.ren]; done) | (simp only [AV.ren]; rw [ej]; done) | rfl, rfl, id, rfl⟩, trivial⟩) ?_
   refine .seq ?_
   refine .region ?_
   refine .q (op_move rfl) trivial rfl ?_
   refine .q (op_move rfl) trivial rfl ?_
   refine .q (op_bytes_str Tryz.underlying33 Tryz.underlying5 Tryz.underlying9 rfl rfl rfl (by have hq := length_tlN (8 * s.length) 8; omega)) trivial rfl ?_
   refine .as (.str (tlN (8 * s.length) 8)) (congrArg AV.str (by rw [List.drop_zero, List.take_of_length_le (by rw [length_tlN]; omega)])) ?_
   refine .q (op_addS rfl rfl (by simp only [List.length_append, List.length_singleton, List.length_replicate, length_tlN]; omega)) trivial rfl ?_
   refine .as (.str T) (congrArg AV.str hT) ?_
   refine .q (op_assign rfl) trivial rfl ?_
   refine .nil ?_
   show Ev _ _ _ _ _
   refine .seq ?_
   refine .region ?_
   refine .a (op_call (U := [(1016, some ⟨.agg64 (stR rstart64), 25, true⟩)]) [] [(1016, 1000)] (rstart_ev) Tryz.func123 (by kernel_rfl) rfl rfl rfl (trivial) (trivial) (⟨⟨1000, _, rfl, rfl, rfl, rfl, .inl rfl⟩, trivial⟩) (trivial) rfl) trivial rfl ?_
   refine .q (op_assign rfl) trivial rfl ?_
   refine .nil ?_
   show Ev _ _ _ _ _
   refine .seq ?_
   refine .seq ?_
   refine .region ?_
   refine .q (op_move rfl) trivial rfl ?_
   refine .q (op_cmpI rfl rfl rfl) trivial rfl ?_
   refine .nil ?_
   show Ev _ _ _ _ _
   refine .cond_true rfl (rfl) ?_
   refine .seq ?_
   refine .region ?_
   refine .q (op_move rfl) trivial rfl ?_
   refine .q (op_len_sl Tryz.underlying203 rfl) trivial rfl ?_
   refine .q (op_move rfl) trivial rfl ?_
   refine .nil ?_
   show Ev _ _ _ _ _
   refine .block ?_
   refine Ev.loop (ι := { q : Nat // q ≤ 8 }) (fun q => ⟨[(0, .str T), (1, .i64 32), (5, .i64 64), (10, .sl 1016 0 8 1), (69, .i64 8), (70, .i64 ((q.1 : Nat) : Int))], [(1016, some ⟨.agg64 (dvN (stR rstart64) q.1), 25, true⟩)], 1024⟩) (fun q => 8 - q.1) ⟨0, Nat.zero_le _⟩ (StLe.mk [(1016, 1016)] rfl rfl ⟨⟨_, rfl, by first | rfl | (simp only [AV.ren]; congr 1; omega), rfl⟩, ⟨_, rfl, by first | rfl | (simp only [AV.ren]; congr 1; omega), rfl⟩, ⟨_, rfl, by first | rfl | (simp only [AV.ren]; congr 1; omega), rfl⟩, ⟨_, rfl, by first | rfl | (simp only [AV.ren]; congr 1; omega), rfl⟩, ⟨_, rfl, by first | rfl | (simp only [AV.ren]; congr 1; omega), rfl⟩, ⟨_, rfl, by first | rfl | (simp only [AV.ren]; congr 1; omega), rfl⟩, trivial⟩ ⟨⟨_, _, rfl, rfl, by first | rfl | (simp only [AV.ren]; congr 1; omega), rfl, id, rfl⟩, trivial⟩) ?_
   rintro ⟨j, hj⟩
   dsimp only
   have hdl : (dvN (stR rstart64) j).length = 8 := length_dvN _ j
   refine .seq ?_
   refine .region ?_
   refine .q (op_cmpI rfl rfl rfl) trivial rfl ?_
   refine .nil ?_
   show Ev _ _ _ _ _
   refine .seq ?_
   refine .cond rfl (fun hc71 => ?_) (fun hc71 => ?_)
   ·simp only [decide_eq_true_eq] at hc71
    refine .skip ?_
    show Ev _ _ _ _ _
    refine .seq ?_
    refine .block ?_
    refine .seq ?_
    refine .region ?_
    refine .q (op_move rfl) trivial rfl ?_
    refine .q (op_assign rfl) trivial rfl ?_
    refine .nil ?_
    show Ev _ _ _ _ _
    refine .region ?_
    refine .q (op_move rfl) trivial rfl ?_
    refine .q (op_move rfl) trivial rfl ?_
    refine .q (op_move rfl) trivial rfl ?_
    refine .q (op_move rfl) trivial rfl ?_
    refine .q (ap_idx0 Tryz.underlying203 inf25.sz rfl rfl rfl (by omega)) trivial rfl ?_
    refine .q (op_load Tryz.underlying25 rfl rfl rfl rfl (by show j < (dvN (stR rstart64) j).length; omega)) trivial rfl ?_
    refine .q (op_quo64 rfl rfl (by decide)) trivial rfl ?_
    refine .q (ap_idx0 Tryz.underlying203 inf25.sz rfl rfl rfl (by omega)) trivial rfl ?_
    refine .w (op_store inf25.sz rfl rfl rfl rfl rfl (by show j < (dvN (stR rstart64) j).length; omega)) trivial rfl ?_
    refine .nil ?_
    show Ev _ _ _ _ _
    refine .region ?_
    refine .q (op_addI rfl rfl ⟨by omega, by omega⟩) trivial rfl ?_
    refine .q (op_move rfl) trivial rfl ?_
    refine .nil ?_
    exact ⟨⟨j + 1, by omega⟩, by show 8 - (j + 1) < 8 - j; omega, StLe.mk [(1016, 1016)] rfl rfl ⟨⟨_, rfl, by first | rfl | (simp only [AV.ren]; congr 1; omega), rfl⟩, ⟨_, rfl, by first | rfl | (simp only [AV.ren]; congr 1; omega), rfl⟩, ⟨_, rfl, by first | rfl | (simp only [AV.ren]; congr 1; omega), rfl⟩, ⟨_, rfl, by first | rfl | (simp only [AV.ren]; congr 1; omega), rfl⟩, ⟨_, rfl, by first | rfl | (simp only [AV.ren]; congr 1; omega), rfl⟩, ⟨_, rfl, by first | rfl | (simp only [AV.ren]; congr 1; omega), rfl⟩, trivial⟩ ⟨⟨_, _, rfl, rfl, by first | rfl | (simp only [AV.ren]; congr 1; omega), rfl, id, rfl⟩, trivial⟩⟩
   ·simp only [decide_eq_false_iff_not] at hc71
    refine .exit ?_
    show Ev _ _ _ _ _
    have ej : j = 8 := by omega
    refine Ev.weak (st2 := ⟨[(0, .str T), (1, .i64 32), (5, .i64 64), (10, .sl 1016 0 8 1), (69, .i64 8), (70, .i64 (((8) : Nat) : Int))], [(1016, some ⟨.agg64 (dvN (stR rstart64) (8)), 25, true⟩)], 1024⟩) (StLe.mk [(1016, 1016)] rfl rfl ⟨⟨_, rfl, by first | (simp only [AV.ren]; done) | (simp only [AV.ren]; rw [ej]; done) | rfl, rfl⟩, ⟨_, rfl, by first | (simp only [AV.ren]; done) | (simp only [AV.ren]; rw [ej]; done) | rfl, rfl⟩, ⟨_, rfl, by first | (simp only [AV.ren]; done) | (simp only [AV.ren]; rw [ej]; done) | rfl, rfl⟩, ⟨_, rfl, by first | (simp only [AV.ren]; done) | (simp only [AV.ren]; rw [ej]; done) | rfl, rfl⟩, ⟨_, rfl, by first | (simp only [AV.ren]; done) | (simp only [AV.ren]; rw [ej]; done) | rfl, rfl⟩, ⟨_, rfl, by first | (simp only [AV.ren]; done) | (simp only [AV.ren]; rw [ej]; done) | rfl, rfl⟩, trivial⟩ ⟨⟨_, _, rfl, rfl, by first | (simp only [AV.ren]; done) | (simp only [AV.ren]; rw [ej]; done) | rfl, rfl, id, rfl⟩, trivial⟩) ?_
    refine .seq ?_
    refine .seq ?_
    refine .region ?_
    refine .q (op_assign rfl) trivial rfl ?_
    refine .nil ?_
    show Ev _ _ _ _ _
    refine .block ?_
    refine Ev.loop (ι := { k : Nat // k ≤ T.length / 64 }) (fun q => ⟨[(0, .str T), (1, .i64 32), (5, .i64 64), (10, .sl 1016 0 8 1), (12, .i64 ((q.1 * 64 : Nat) : Int))], [(1016, some ⟨.agg64 (stR (rblocks32 rstart32 T q.1)), 25, true⟩)], 1024⟩) (fun q => T.length / 64 - q.1) ⟨0, Nat.zero_le _⟩ (StLe.mk [(1016, 1016)] rfl rfl ⟨⟨_, rfl, by first | rfl | (simp only [AV.ren]; rfl) | (simp only [AV.ren]; congr 1; omega), rfl⟩, ⟨_, rfl, by first | rfl | (simp only [AV.ren]; rfl) | (simp only [AV.ren]; congr 1; omega), rfl⟩, ⟨_, rfl, by first | rfl | (simp only [AV.ren]; rfl) | (simp only [AV.ren]; congr 1; omega), rfl⟩, ⟨_, rfl, by first | rfl | (simp only [AV.ren]; rfl) | (simp only [AV.ren]; congr 1; omega), rfl⟩, ⟨_, rfl, by first | rfl | (simp only [AV.ren]; rfl) | (simp only [AV.ren]; congr 1; omega), rfl⟩, trivial⟩ ⟨⟨_, _, rfl, rfl, by (simp only [AV.ren]; rw [dv_all]; rfl), rfl, id, rfl⟩, trivial⟩) ?_
    rintro ⟨k, hk⟩
    try dsimp only
    try simp only at hk
    refine .seq ?_
    refine .seq ?_
    refine .region ?_
    refine .q (op_move rfl) trivial rfl ?_
    refine .q (op_move rfl) trivial rfl ?_
    refine .q (op_len_str Tryz.underlying9 rfl) trivial rfl ?_
    refine .q (op_cmpI rfl rfl rfl) trivial rfl ?_
    refine .nil ?_
    show Ev _ _ _ _ _
    refine .cond rfl (fun hc85 => ?_) (fun hc85 => ?_)
    ·simp only [decide_eq_true_eq] at hc85
     refine .skip ?_
     show Ev _ _ _ _ _
     refine .seq ?_
     refine .block ?_
     refine .region ?_
     refine .q (op_move rfl) trivial rfl ?_
     refine .q (op_move rfl) trivial rfl ?_
     refine .q (op_move rfl) trivial rfl ?_
     refine .q (op_move rfl) trivial rfl ?_
     refine .q (op_move rfl) trivial rfl ?_
     refine .q (op_addI rfl rfl ⟨by omega, by omega⟩) trivial rfl ?_
     refine .q (op_slice_str Tryz.underlying9 rfl (bnd_some rfl (l := k * 64) rfl) (bnd_some rfl (l := k * 64 + 64) (by omega)) (by omega) (by omega)) trivial rfl ?_
     refine .as (.str ((T.drop (k * 64)).take 64)) (congrArg AV.str (by congr 1; omega)) ?_
     refine .q (op_move rfl) trivial rfl ?_
     refine .a (op_call (U := [(1024, some ⟨.agg64 (stR (rblock32 (rblocks32 rstart32 T k) ((T.drop (k * 64)).take 64))), 25, true⟩)]) [(500, 1016)] [(1024, 1024)] (rblock_ev (rblocks32 rstart32 T k) ((T.drop (k * 64)).take 64) 25 (by rw [List.length_take, List.length_drop]; omega)) Tryz.func124 (by kernel_rfl) rfl rfl rfl (⟨⟨_, rfl, rfl, rfl⟩, ⟨_, rfl, rfl, rfl⟩, ⟨_, rfl, rfl, rfl⟩, trivial⟩) (⟨⟨_, _, rfl, rfl, rfl, rfl, (fun h => by cases h), rfl⟩, trivial⟩) (⟨⟨1024, _, rfl, rfl, rfl, rfl, .inl rfl⟩, trivial⟩) (⟨(fun h => by cases h), trivial⟩) rfl) trivial rfl ?_
     refine .q (op_assign rfl) trivial rfl ?_
     refine .nil ?_
     show Ev _ _ _ _ _
     refine .region ?_
     refine .q (op_move rfl) trivial rfl ?_
     refine .q (op_move rfl) trivial rfl ?_
     refine .q (op_addI rfl rfl ⟨by omega, by omega⟩) trivial rfl ?_
     refine .as (.i64 (((k + 1) * 64 : Nat) : Int)) (congrArg AV.i64 (by omega)) ?_
     refine .q (op_assign rfl) trivial rfl ?_
     refine .nil ?_
     exact ⟨⟨k + 1, by omega⟩, by (try dsimp only); omega, StLe.mk [(1016, 1024)] rfl rfl ⟨⟨_, rfl, by first | rfl | (simp only [AV.ren]; rfl) | (simp only [AV.ren]; congr 1; omega), rfl⟩, ⟨_, rfl, by first | rfl | (simp only [AV.ren]; rfl) | (simp only [AV.ren]; congr 1; omega), rfl⟩, ⟨_, rfl, by first | rfl | (simp only [AV.ren]; rfl) | (simp only [AV.ren]; congr 1; omega), rfl⟩, ⟨_, rfl, by first | rfl | (simp only [AV.ren]; rfl) | (simp only [AV.ren]; congr 1; omega), rfl⟩, ⟨_, rfl, by first | rfl | (simp only [AV.ren]; rfl) | (simp only [AV.ren]; congr 1; omega), rfl⟩, trivial⟩ ⟨⟨_, _, rfl, rfl, rfl, rfl, id, rfl⟩, trivial⟩⟩
    ·simp only [decide_eq_false_iff_not] at hc85
     refine .exit ?_
     show Ev _ _ _ _ _
     have hkT : k = T.length / 64 := by omega
     refine Ev.weak (st2 := ⟨[(0, .str T), (1, .i64 32), (5, .i64 64), (10, .sl 1016 0 8 1)], [(1016, some ⟨.agg64 (stR st), 25, true⟩)], 1024⟩) (StLe.mk [(1016, 1016)] rfl rfl ⟨⟨_, rfl, by first | rfl | (simp only [AV.ren]; rfl) | (simp only [AV.ren]; congr 1; omega), rfl⟩, ⟨_, rfl, by first | rfl | (simp only [AV.ren]; rfl) | (simp only [AV.ren]; congr 1; omega), rfl⟩, ⟨_, rfl, by first | rfl | (simp only [AV.ren]; rfl) | (simp only [AV.ren]; congr 1; omega), rfl⟩, ⟨_, rfl, by first | rfl | (simp only [AV.ren]; rfl) | (simp only [AV.ren]; congr 1; omega), rfl⟩, trivial⟩ ⟨⟨_, _, rfl, rfl, by (simp only [AV.ren]; rw [hkT, hst]), rfl, id, rfl⟩, trivial⟩) ?_
     show Ev _ _ _ _ _
     refine .seq ?_
     refine .region ?_
     refine .a (ap_build0 (z := 1) (c := .aggB []) Tryz.underlying33 inf5 rfl) trivial rfl ?_
     refine .q (op_assign rfl) trivial rfl ?_
     refine .nil ?_
     show Ev _ _ _ _ _
     refine .seq ?_
     refine .seq ?_
     refine .region ?_
     refine .q (op_move rfl) trivial rfl ?_
     refine .q (op_len_sl Tryz.underlying203 rfl) trivial rfl ?_
     refine .q (op_move rfl) trivial rfl ?_
     refine .nil ?_
     show Ev _ _ _ _ _
     refine .block ?_
     refine Ev.loop (ι := { q : Nat // q ≤ 8 }) (fun q => ⟨[(1, .i64 32), (13, .sl 1024 0 (4 * q.1) 1), (99, .sl 1016 0 8 1), (100, .i64 8), (101, .i64 ((q.1 : Nat) : Int))], [(1016, some ⟨.agg64 (stR st), 25, true⟩), (1024, some ⟨.aggB (rdig32 st q.1), 5, true⟩)], 1032⟩) (fun q => 8 - q.1) ⟨0, Nat.zero_le _⟩ (StLe.mk [(1016, 1016), (1024, 1024)] rfl rfl ⟨⟨_, rfl, by first | rfl | (simp only [AV.ren]; congr 1; omega), rfl⟩, ⟨_, rfl, by first | rfl | (simp only [AV.ren]; congr 1; omega), rfl⟩, ⟨_, rfl, by first | rfl | (simp only [AV.ren]; congr 1; omega), rfl⟩, ⟨_, rfl, by first | rfl | (simp only [AV.ren]; congr 1; omega), rfl⟩, ⟨_, rfl, by first | rfl | (simp only [AV.ren]; congr 1; omega), rfl⟩, trivial⟩ ⟨⟨_, _, rfl, rfl, by first | rfl | (simp only [AV.ren]; congr 1; omega), rfl, id, rfl⟩, ⟨_, _, rfl, rfl, by first | rfl | (simp only [AV.ren]; congr 1; omega), rfl, id, rfl⟩, trivial⟩) ?_
     rintro ⟨i, hi⟩
     dsimp only
     have hrl := length_rdig st i
     have hl8 : (stR st).length = 8 := rfl
     refine .seq ?_
     refine .region ?_
     refine .q (op_cmpI rfl rfl rfl) trivial rfl ?_
     refine .nil ?_
     show Ev _ _ _ _ _
     refine .seq ?_
     refine .cond rfl (fun hc102 => ?_) (fun hc102 => ?_)
     ·simp only [decide_eq_true_eq] at hc102
      refine .skip ?_
      show Ev _ _ _ _ _
      refine .seq ?_
      refine .block ?_
      refine .seq ?_
      refine .region ?_
      refine .q (ap_idx0 Tryz.underlying203 inf25.sz rfl rfl rfl (by omega)) trivial rfl ?_
      refine .q (op_load Tryz.underlying25 rfl rfl rfl rfl (by show i < (stR st).length; omega)) trivial rfl ?_
      refine .as (.u64 (stN64 st i)) (congrArg AV.u64 (stR_word st i (by omega))) ?_
      refine .q (op_assign rfl) trivial rfl ?_
      refine .nil ?_
      show Ev _ _ _ _ _
      refine .seq ?_
      refine .region ?_
      refine .q (op_move rfl) trivial rfl ?_
      refine .q (op_quoI rfl rfl ⟨by decide, ⟨by decide, by decide⟩, by decide⟩) trivial rfl ?_
      refine .as (.i64 4) rfl ?_
      refine .q (op_subI rfl rfl ⟨by decide, by decide⟩) trivial rfl ?_
      refine .as (.i64 3) rfl ?_
      refine .q (op_assign rfl) trivial rfl ?_
      refine .nil ?_
      show Ev _ _ _ _ _
      refine .block ?_
      refine Ev.rounds 5 ?_
      show Ev _ _ _ _ _
      refine .seq ?_
      refine .seq ?_
      refine .region ?_
      refine .q (op_move rfl) trivial rfl ?_
      refine .q (op_cmpI rfl rfl rfl) trivial rfl ?_
      refine .nil ?_
      show Ev _ _ _ _ _
      refine .cond_true rfl (rfl) ?_
      refine .skip ?_
      show Ev _ _ _ _ _
      refine .seq ?_
      refine .block ?_
      refine .region ?_
      refine .q (op_move rfl) trivial rfl ?_
      refine .q (op_move rfl) trivial rfl ?_
      refine .q (op_move rfl) trivial rfl ?_
      refine .q (op_mulI rfl rfl ⟨by decide, by decide⟩) trivial rfl ?_
      refine .as (.i64 24) rfl ?_
      refine .q (op_shr64 (n := 24) rfl rfl rfl (by decide)) trivial rfl ?_
      refine .q (op_conv Tryz.underlying25 Tryz.underlying5 rfl rfl) trivial rfl ?_
      refine .as (.u8 (byte64 (stN64 st i) 3)) rfl ?_
      refine .a (ap_build (us := [.u8 (byte64 (stN64 st i) 3)]) (c := .aggB [byte64 (stN64 st i) 3]) Tryz.underlying33 inf5 rfl (by decide) (by decide) ⟨rfl, rfl, rfl, trivial⟩ rfl) trivial rfl ?_
      refine .a (ap_cat Tryz.underlying33 inf5 rfl rfl rfl rfl (by first | (simp only [AV.len]; done) | (simp only [AV.len]; omega) | omega) rfl rfl (by first | (simp only [AV.len, List.length_singleton]; done) | (simp only [AV.len, List.length_append, List.length_singleton]; omega) | omega) rfl (by first | (simp only [AV.len, List.length_append, List.length_singleton]; done) | (simp only [AV.len, List.length_append, List.length_singleton]; omega) | omega)) trivial rfl ?_
      refine .q (op_assign rfl) trivial rfl ?_
      refine .nil ?_
      show Ev _ _ _ _ _
      refine .region ?_
      refine .q (op_move rfl) trivial rfl ?_
      refine .q (op_subI rfl rfl ⟨by decide, by decide⟩) trivial rfl ?_
      refine .as (.i64 (2)) rfl ?_
      refine .q (op_assign rfl) trivial rfl ?_
      refine .nil ?_
      show Ev _ _ _ _ _
      refine .seq ?_
      refine .seq ?_
      refine .region ?_
      refine .q (op_move rfl) trivial rfl ?_
      refine .q (op_cmpI rfl rfl rfl) trivial rfl ?_
      refine .nil ?_
      show Ev _ _ _ _ _
      refine .cond_true rfl (rfl) ?_
      refine .skip ?_
      show Ev _ _ _ _ _
      refine .seq ?_
      refine .block ?_
      refine .region ?_
      refine .q (op_move rfl) trivial rfl ?_
      refine .q (op_move rfl) trivial rfl ?_
      refine .q (op_move rfl) trivial rfl ?_
      refine .q (op_mulI rfl rfl ⟨by decide, by decide⟩) trivial rfl ?_
      refine .as (.i64 16) rfl ?_
      refine .q (op_shr64 (n := 16) rfl rfl rfl (by decide)) trivial rfl ?_
      refine .q (op_conv Tryz.underlying25 Tryz.underlying5 rfl rfl) trivial rfl ?_
      refine .as (.u8 (byte64 (stN64 st i) 2)) rfl ?_
      refine .a (ap_build (us := [.u8 (byte64 (stN64 st i) 2)]) (c := .aggB [byte64 (stN64 st i) 2]) Tryz.underlying33 inf5 rfl (by decide) (by decide) ⟨rfl, rfl, rfl, trivial⟩ rfl) trivial rfl ?_
      refine .a (ap_cat Tryz.underlying33 inf5 rfl rfl rfl rfl (by first | (simp only [AV.len, List.length_append, List.length_singleton]; done) | (simp only [AV.len, List.length_append, List.length_singleton]; omega) | omega) rfl rfl (by first | (simp only [AV.len, List.length_singleton]; done) | (simp only [AV.len, List.length_append, List.length_singleton]; omega) | omega) rfl (by first | (simp only [AV.len, List.length_append, List.length_singleton]; done) | (simp only [AV.len, List.length_append, List.length_singleton]; omega) | omega)) trivial rfl ?_
      refine .q (op_assign rfl) trivial rfl ?_
      refine .nil ?_
      show Ev _ _ _ _ _
      refine .region ?_
      refine .q (op_move rfl) trivial rfl ?_
      refine .q (op_subI rfl rfl ⟨by decide, by decide⟩) trivial rfl ?_
      refine .as (.i64 (1)) rfl ?_
      refine .q (op_assign rfl) trivial rfl ?_
      refine .nil ?_
      show Ev _ _ _ _ _
      refine .seq ?_
      refine .seq ?_
      refine .region ?_
      refine .q (op_move rfl) trivial rfl ?_
      refine .q (op_cmpI rfl rfl rfl) trivial rfl ?_
      refine .nil ?_
      show Ev _ _ _ _ _
      refine .cond_true rfl (rfl) ?_
      refine .skip ?_
      show Ev _ _ _ _ _
      refine .seq ?_
      refine .block ?_
      refine .region ?_
      refine .q (op_move rfl) trivial rfl ?_
      refine .q (op_move rfl) trivial rfl ?_
      refine .q (op_move rfl) trivial rfl ?_
      refine .q (op_mulI rfl rfl ⟨by decide, by decide⟩) trivial rfl ?_
      refine .as (.i64 8) rfl ?_
      refine .q (op_shr64 (n := 8) rfl rfl rfl (by decide)) trivial rfl ?_
      refine .q (op_conv Tryz.underlying25 Tryz.underlying5 rfl rfl) trivial rfl ?_
      refine .as (.u8 (byte64 (stN64 st i) 1)) rfl ?_
      refine .a (ap_build (us := [.u8 (byte64 (stN64 st i) 1)]) (c := .aggB [byte64 (stN64 st i) 1]) Tryz.underlying33 inf5 rfl (by decide) (by decide) ⟨rfl, rfl, rfl, trivial⟩ rfl) trivial rfl ?_
      refine .a (ap_cat Tryz.underlying33 inf5 rfl rfl rfl rfl (by first | (simp only [AV.len, List.length_append, List.length_singleton]; done) | (simp only [AV.len, List.length_append, List.length_singleton]; omega) | omega) rfl rfl (by first | (simp only [AV.len, List.length_singleton]; done) | (simp only [AV.len, List.length_append, List.length_singleton]; omega) | omega) rfl (by first | (simp only [AV.len, List.length_append, List.length_singleton]; done) | (simp only [AV.len, List.length_append, List.length_singleton]; omega) | omega)) trivial rfl ?_
      refine .q (op_assign rfl) trivial rfl ?_
      refine .nil ?_
      show Ev _ _ _ _ _
      refine .region ?_
      refine .q (op_move rfl) trivial rfl ?_
      refine .q (op_subI rfl rfl ⟨by decide, by decide⟩) trivial rfl ?_
      refine .as (.i64 (0)) rfl ?_
      refine .q (op_assign rfl) trivial rfl ?_
      refine .nil ?_
      show Ev _ _ _ _ _
      refine .seq ?_
      refine .seq ?_
      refine .region ?_
      refine .q (op_move rfl) trivial rfl ?_
      refine .q (op_cmpI rfl rfl rfl) trivial rfl ?_
      refine .nil ?_
      show Ev _ _ _ _ _
      refine .cond_true rfl (rfl) ?_
      refine .skip ?_
      show Ev _ _ _ _ _
      refine .seq ?_
      refine .block ?_
      refine .region ?_
      refine .q (op_move rfl) trivial rfl ?_
      refine .q (op_move rfl) trivial rfl ?_
      refine .q (op_move rfl) trivial rfl ?_
      refine .q (op_mulI rfl rfl ⟨by decide, by decide⟩) trivial rfl ?_
      refine .as (.i64 0) rfl ?_
      refine .q (op_shr64 (n := 0) rfl rfl rfl (by decide)) trivial rfl ?_
      refine .q (op_conv Tryz.underlying25 Tryz.underlying5 rfl rfl) trivial rfl ?_
      refine .as (.u8 (byte64 (stN64 st i) 0)) rfl ?_
      refine .a (ap_build (us := [.u8 (byte64 (stN64 st i) 0)]) (c := .aggB [byte64 (stN64 st i) 0]) Tryz.underlying33 inf5 rfl (by decide) (by decide) ⟨rfl, rfl, rfl, trivial⟩ rfl) trivial rfl ?_
      refine .a (ap_cat Tryz.underlying33 inf5 rfl rfl rfl rfl (by first | (simp only [AV.len, List.length_append, List.length_singleton]; done) | (simp only [AV.len, List.length_append, List.length_singleton]; omega) | omega) rfl rfl (by first | (simp only [AV.len, List.length_singleton]; done) | (simp only [AV.len, List.length_append, List.length_singleton]; omega) | omega) rfl (by first | (simp only [AV.len, List.length_append, List.length_singleton]; done) | (simp only [AV.len, List.length_append, List.length_singleton]; omega) | omega)) trivial rfl ?_
      refine .q (op_assign rfl) trivial rfl ?_
      refine .nil ?_
      show Ev _ _ _ _ _
      refine .region ?_
      refine .q (op_move rfl) trivial rfl ?_
      refine .q (op_subI rfl rfl ⟨by decide, by decide⟩) trivial rfl ?_
      refine .as (.i64 (-1)) rfl ?_
      refine .q (op_assign rfl) trivial rfl ?_
      refine .nil ?_
      show Ev _ _ _ _ _
      refine .seq ?_
      refine .seq ?_
      refine .region ?_
      refine .q (op_move rfl) trivial rfl ?_
      refine .q (op_cmpI rfl rfl rfl) trivial rfl ?_
      refine .nil ?_
      show Ev _ _ _ _ _
      refine .cond_false rfl (rfl) ?_
      refine .exit ?_
      show Ev _ _ _ _ _
      refine .region ?_
      refine .q (op_addI rfl rfl ⟨by omega, by omega⟩) trivial rfl ?_
      refine .q (op_move rfl) trivial rfl ?_
      refine .nil ?_
      exact ⟨⟨i + 1, by omega⟩, by show 8 - (i + 1) < 8 - i; omega, StLe.mk [(1016, 1016), (1024, 1088)] rfl rfl ⟨⟨_, rfl, by first | rfl | (simp only [AV.ren]; congr 1; omega), rfl⟩, ⟨_, rfl, by first | rfl | (simp only [AV.ren]; congr 1; omega), rfl⟩, ⟨_, rfl, by first | rfl | (simp only [AV.ren]; congr 1; omega), rfl⟩, ⟨_, rfl, by first | rfl | (simp only [AV.ren]; congr 1; omega), rfl⟩, ⟨_, rfl, by first | rfl | (simp only [AV.ren]; congr 1; omega), rfl⟩, trivial⟩ ⟨⟨_, _, rfl, rfl, by first | rfl | (simp only [AV.ren]; congr 1; omega), rfl, id, rfl⟩, ⟨_, _, rfl, rfl, by (simp only [AV.ren]; rw [rdig_step]), rfl, id, rfl⟩, trivial⟩⟩
     ·simp only [decide_eq_false_iff_not] at hc102
      refine .exit ?_
      show Ev _ _ _ _ _
      have ei : i = 8 := by omega
      refine Ev.weak (st2 := ⟨[(1, .i64 32), (13, .sl 1024 0 (4 * (8)) 1), (99, .sl 1016 0 8 1), (100, .i64 8), (101, .i64 (((8) : Nat) : Int))], [(1016, some ⟨.agg64 (stR st), 25, true⟩), (1024, some ⟨.aggB (rdig32 st (8)), 5, true⟩)], 1032⟩) (StLe.mk [(1016, 1016), (1024, 1024)] rfl rfl ⟨⟨_, rfl, by first | (simp only [AV.ren]; done) | (simp only [AV.ren]; rw [ei]; done) | rfl, rfl⟩, ⟨_, rfl, by (show AV.sl 1024 0 (4 * i) 1 = AV.sl 1024 0 (4 * 8) 1; rw [ei]), rfl⟩, ⟨_, rfl, by first | (simp only [AV.ren]; done) | (simp only [AV.ren]; rw [ei]; done) | rfl, rfl⟩, ⟨_, rfl, by first | (simp only [AV.ren]; done) | (simp only [AV.ren]; rw [ei]; done) | rfl, rfl⟩, ⟨_, rfl, by first | (simp only [AV.ren]; done) | (simp only [AV.ren]; rw [ei]; done) | rfl, rfl⟩, trivial⟩ ⟨⟨_, _, rfl, rfl, by first | (simp only [AV.ren]; done) | (simp only [AV.ren]; rw [ei]; done) | rfl, rfl, id, rfl⟩, ⟨_, _, rfl, rfl, by first | (simp only [AV.ren]; done) | (simp only [AV.ren]; rw [ei]; done) | rfl, rfl, id, rfl⟩, trivial⟩) ?_
      refine .seq ?_
      refine .region ?_
      refine .q (op_move rfl) trivial rfl ?_
      refine .q (op_bytes_str Tryz.underlying33 Tryz.underlying5 Tryz.underlying9 rfl rfl rfl (by have hq := length_rdig st 8; omega)) trivial rfl ?_
      refine .as (.str (rsum32 s)) (congrArg AV.str (by rw [List.drop_zero, List.take_of_length_le (by rw [length_rdig]; omega)]; exact hsum)) ?_
      refine .q (op_assign rfl) trivial rfl ?_
      refine .nil ?_
      show Ev _ _ _ _ _
      refine .ret ?_
      show RetOk _ _ _ _ _ _ _
      exact ret1v rfl (.inl rfl) rfl rfl trivial
theorem rsum256_ev (s : List UInt8) (hs : s.length ≤ 1000000) : Meets Tryz.prog 87 [.str s, .i64 32] [] (.str (sha256 s)) [] := by
 rw [← rsum32_eq]; exact rsum_ev s hs
end Go.Proofs.YtdmlpblaelfdmaaGreatDoor
