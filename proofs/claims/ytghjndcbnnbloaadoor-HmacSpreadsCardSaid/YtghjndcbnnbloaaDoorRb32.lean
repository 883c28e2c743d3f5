/-
  The reference's block at one width, walked.
-/
import Derived.Test.YtghjndcbnnbloaaDoorRs
import Derived.Test.YtghjndcbnnbloaaDoorAp
import Derived.Deep.RegionLaw
namespace Go.Proofs.YtghjndcbnnbloaaDoor
open Go.RowKit
attribute [local go_sem] and_n64 or_n64 xor_n64 not_n64 add_n64 add_n64' mul_n64 wrap_n64

def HRow32 (w : World) (b : Nat) (st : St64) : Prop := ∀ j, j < 8 → w.cell? ⟨b, j, none⟩ = some (U64 (stN64 st j))
def RefW32 (w : World) (bs : List UInt8) (V i : Value) (wr : World) : Prop :=
  ∃ k g cap : Nat, k ≤ 64 ∧ i = .int .i64 k ∧ V = .slice (some ⟨g, 0, none⟩) k cap ∧ wr.ownsRow w.heap.size 46 1 (.slice (some ⟨g, 0, none⟩) k cap) k ((rsch32 bs k).map U64) ∧ Below w.heap.size w wr
def RefV32 (w : World) (ws : List UInt64) (st : St64) (g cap : Nat) (V i : Value) (wr : World) : Prop :=
  ∃ t vb vc : Nat, t ≤ 64 ∧ i = .int .i64 t ∧ V = .slice (some ⟨vb, 0, none⟩) 8 vc ∧ HRow32 wr vb (rrounds32 ws st t) ∧ wr.ownsRow w.heap.size 46 1 (.slice (some ⟨g, 0, none⟩) 64 cap) 64 (ws.map U64) ∧ Below w.heap.size w wr ∧ vb < wr.heap.size
def RefO32 (w : World) (B : Nat) (L : List UInt64) (s : St64) (vx : Nat) (V i : Value) (wr : World) : Prop :=
  ∃ j go gc : Nat, j ≤ 8 ∧ i = .int .i64 j ∧ V = .slice (some ⟨go, 0, none⟩) j gc ∧ wr.ownsRow B 46 1 (.slice (some ⟨go, 0, none⟩) j gc) j ((L.take j).map U64) ∧ HRow32 wr vx s ∧ Below w.heap.size w wr ∧ B ≤ wr.heap.size
theorem HRow32.below {w w' : World} {b : Nat} {st : St64} {B : Nat} (h : HRow32 w b st) (hb : Below B w w') (hB : b < B) : HRow32 w' b st := fun j hj => (hb.cell (p := ⟨b, j, none⟩) hB).trans (h j hj)
theorem HRow32.alloc {w : World} {b : Nat} {st : St64} (h : HRow32 w b st) (o : Obj) : HRow32 (w.alloc o) b st := fun j hj => by
  have hl := block_lt_of_cell (h j hj)
  exact (World.cell?_alloc_lt w o ⟨b, j, none⟩ hl).trans (h j hj)
theorem HRow32.new (w : World) (a0 a1 a2 a3 a4 a5 a6 a7 : UInt64) : HRow32 (w.alloc (.cells #[U64 a0, U64 a1, U64 a2, U64 a3, U64 a4, U64 a5, U64 a6, U64 a7] 46)) w.heap.size ⟨a0, a1, a2, a3, a4, a5, a6, a7⟩ := fun j hj => by
  rw [(Blk.new w 46 _).cell]
  match j, hj with
  | 0, _ => rfl
  | 1, _ => rfl
  | 2, _ => rfl
  | 3, _ => rfl
  | 4, _ => rfl
  | 5, _ => rfl
  | 6, _ => rfl
  | 7, _ => rfl
theorem HRow32.drewN {w : World} {b : Nat} {st : St64} (h : HRow32 w b st) (n : Nat) : HRow32 (w.drewN n) b st := h
theorem HRow32.drew {w : World} {b : Nat} {st : St64} (h : HRow32 w b st) : HRow32 w.drew b st := h
theorem rlist_succ32 (st s : St64) (j : Nat) (h : j < 8) : (rlist (radd32 st s)).take (j + 1) = (rlist (radd32 st s)).take j ++ [rcut 32 (stN64 st j + stN64 s j)] := by
  match j, h with
  | 0, _ => rfl
  | 1, _ => rfl
  | 2, _ => rfl
  | 3, _ => rfl
  | 4, _ => rfl
  | 5, _ => rfl
  | 6, _ => rfl
  | 7, _ => rfl
theorem HRow32.of_own {w : World} {B g c : Nat} {s : St64} (h : w.ownsRow B 46 1 (.slice (some ⟨g, 0, none⟩) 8 c) 8 ((rlist s).map U64)) : HRow32 w g s := fun j hj => by
  rw [own_cell h j hj]
  match j, hj with
  | 0, _ => rfl
  | 1, _ => rfl
  | 2, _ => rfl
  | 3, _ => rfl
  | 4, _ => rfl
  | 5, _ => rfl
  | 6, _ => rfl
  | 7, _ => rfl
theorem info46_32 : (Tryd.prog.info? 46).map (fun i => (i.zero, i.size, i.bytes)) = some (some (.int .u64 0), 1, 8) := by kernel_rfl

set_option maxHeartbeats 2000000 in
set_option maxRecDepth 100000 in
theorem refBlock32_any (hb hc : Nat) (st : St64) (S : ByteArray) (w : World) (hh : HRow32 w hb st) (hS : S.size = 64) :
    Calls Tryd.prog 44 #[.slice (some ⟨hb, 0, none⟩) 8 hc, .string S, .int .i64 32] w fun e w' => ∃ g c, e = .returned (.slice (some ⟨g, 0, none⟩) 8 c) ∧ w.heap.size ≤ g ∧ HRow32 w' g (rblock32 st S.data.toList) ∧ Below w.heap.size w w' := by
  obtain ⟨i0, hi, hz0, hz1, hz2⟩ := info_parts info46_32
  have hSl : S.data.toList.length = 64 := hS
  go_enter Tryd.func44, Tryd.ntmps44
  go_wp2
  go_loopw [9, 10] (fun V i wr => RefW32 w S.data.toList V i wr) (fun _ i _ => 64 - (intOf i).toNat)
  case atStart =>
    exact ⟨0, w.heap.size, 0, Nat.zero_le _, rfl, rfl, own_lit w 46 #[] 0 rfl (by decide) _ (Nat.le_refl _), (Below.refl _ _).alloc (Nat.le_refl _) _⟩
  case round =>
    obtain ⟨k, g, cap, hk, rfl, rfl, hown, hbel⟩ := hrel
    by_cases hlt : k < 64
    · by_cases h16 : k < 16
      · have hd1 : decide ((k : Int) < 64) = true := decide_eq_true (by omega)
        have hd2 : decide ((k : Int) < 16) = true := decide_eq_true (by omega)
        obtain ⟨C, hC⟩ : ∃ C, C = (S.data.toList.drop (k * 4)).take 4 := ⟨_, rfl⟩
        have hCl : C.length = 4 := by rw [hC, List.length_take, List.length_drop, hSl]; omega
        have HC := hid hC
        have HCl := hid hCl
        clear hC hCl
        go_wp2
        go_loop [11, 12] (fun x i => ∃ j : Nat, j ≤ 4 ∧ i = .int .i64 j ∧ x = U64 (rbe (C.take j))) (fun _ i => 4 - (intOf i).toNat)
        case atStart => exact ⟨0, Nat.zero_le _, rfl, rfl⟩
        case round =>
          obtain ⟨j, hj, rfl, rfl⟩ := hrel
          by_cases hj2 : j < 4
          · have hjC : j < C.length := by rw [HCl.out]; exact hj2
            have hidx : k * 4 + j < S.size := by rw [hS]; omega
            have hbv : S[k * 4 + j] = C[j] := by
              have e : C[j]? = S.data.toList[k * 4 + j]? := by rw [HC.out, List.getElem?_take, if_pos hj2, List.getElem?_drop]
              rw [List.getElem?_eq_getElem hjC, List.getElem?_eq_getElem (show k * 4 + j < S.data.toList.length from hidx)] at e
              exact (Option.some.inj e).symm
            have hz : ((S[k * 4 + j].toNat : Nat) : Int) = n64 C[j].toUInt64 := by rw [hbv, ← n64_of_n8]; rfl
            have h256 : IntKind.u64.wrap (n64 (rbe (C.take j)) * 256) = n64 (rbe (C.take j) * 256) := mul_n64 _ 256
            have HS := hid (rbe_succ C j hjC)
            clear hbv
            go_wp2
            go_round
            case rel => exact ⟨j + 1, by omega, by go_num, by rw [HS.out]⟩
            case measure => simp [intOf]; omega
          · have hd3 : decide ((j : Int) < 4) = false := decide_eq_false (by omega)
            have hCx : C.take j = C := List.take_of_length_le (by rw [HCl.out]; omega)
            rw [hCx]
            clear hCx
            go_wp2_with fail
            refine (cut32_any _ _).mono ?_
            rintro e w' ⟨rfl, rfl⟩
            go_wp2_with (at_builtin; refine step_append rfl (.tmp 106) (.tmp 110) 66 rfl w.heap.size 46 i0 _ 8 Tryd.underlying66 hi hz0 hz1 hz2 rfl (by omega) _ k _ rfl (hown.alloc _) _ 0 1 1 [U64 (rcut 32 (rbe C))] rfl rfl (new_one _ 46 _) (by simp [Value.oneCell']) (by omega) (by omega) (by have := hbel.size; simp; omega) ?_; intro g2 cap2 w2 hown2 _ hb2)
            go_roundw
            case rel =>
              refine ⟨k + 1, g2, cap2, by omega, by go_num, rfl, ?_, (hbel.alloc hbel.size _).trans hb2⟩
              rw [rsch32, if_pos h16, ← HC.out, List.map_append]
              exact hown2
            case measure => simp [intOf]; omega
      · have hd1 : decide ((k : Int) < 64) = true := decide_eq_true (by omega)
        have hd2 : decide ((k : Int) < 16) = false := decide_eq_false (by omega)
        have hlen := length_rsch32 S.data.toList k
        obtain ⟨ws, hws⟩ : ∃ ws, ws = rsch32 S.data.toList k := ⟨_, rfl⟩
        rw [← hws] at hown hlen
        have HWS := hid hws
        have HLEN := hid hlen
        have cellW : ∀ j, j < k → wr.cell? ⟨g, j, none⟩ = some (U64 (ws.getD j 0)) := fun j hj => by
          rw [own_cell hown j hj, List.getElem?_map, List.getElem?_eq_getElem (by rw [HLEN.out]; exact hj), List.getD_eq_getElem?_getD, List.getElem?_eq_getElem (by rw [HLEN.out]; exact hj)]; rfl
        have c2 := cellW (k - 2) (by omega)
        have c7 := cellW (k - 7) (by omega)
        have c15 := cellW (k - 15) (by omega)
        have c16 := cellW (k - 16) (by omega)
        obtain ⟨x2, e2⟩ : ∃ x, x = ws.getD (k - 2) 0 := ⟨_, rfl⟩
        obtain ⟨x7, e7⟩ : ∃ x, x = ws.getD (k - 7) 0 := ⟨_, rfl⟩
        obtain ⟨x15, e15⟩ : ∃ x, x = ws.getD (k - 15) 0 := ⟨_, rfl⟩
        obtain ⟨x16, e16⟩ : ∃ x, x = ws.getD (k - 16) 0 := ⟨_, rfl⟩
        rw [← e2] at c2
        rw [← e7] at c7
        rw [← e15] at c15
        rw [← e16] at c16
        have HN : Hid (rnext32 ws k = rthree 32 x2 17 19 10 true + x7 + rthree 32 x15 7 18 3 true + x16) := hid (by rw [rnext32, e2, e7, e15, e16])
        clear hws hlen cellW e2 e7 e15 e16
        go_wp2
        have b2 : (0 : Int) ≤ (k : Int) - 2 := by omega
        have b7 : (0 : Int) ≤ (k : Int) - 7 := by omega
        have b15 : (0 : Int) ≤ (k : Int) - 15 := by omega
        have b16 : (0 : Int) ≤ (k : Int) - 16 := by omega
        have l2 : (k : Int) - 2 < k := by omega
        have l7 : (k : Int) - 7 < k := by omega
        have l15 : (k : Int) - 15 < k := by omega
        have l16 : (k : Int) - 16 < k := by omega
        have t2 : ((k : Int) - 2).toNat = k - 2 := by omega
        have t7 : ((k : Int) - 7).toNat = k - 7 := by omega
        have t15 : ((k : Int) - 15).toNat = k - 15 := by omega
        have t16 : ((k : Int) - 16).toNat = k - 16 := by omega
        have n2 : IntKind.i64.wrap ((k : Int) - 2) = (k : Int) - 2 := IntWalk.i64_in _ (by omega)
        have n7 : IntKind.i64.wrap ((k : Int) - 7) = (k : Int) - 7 := IntWalk.i64_in _ (by omega)
        have n15 : IntKind.i64.wrap ((k : Int) - 15) = (k : Int) - 15 := IntWalk.i64_in _ (by omega)
        have n16 : IntKind.i64.wrap ((k : Int) - 16) = (k : Int) - 16 := IntWalk.i64_in _ (by omega)
        go_quiet ((go_at_call 50; exact Calls.quiet_of (three32_shift _ _ _ _ _ (by decide) (by decide) (by decide) (by decide) (by decide) (by decide))))
        clear b2 b7 b15 b16 l2 l7 l15 l16 t2 t7 t15 t16 n2 n7 n15 n16 c2 c7 c15 c16
        go_wp2_with fail
        refine (cut32_any _ _).mono ?_
        rintro e w' ⟨rfl, rfl⟩
        rw [← HN.out]
        go_wp2_with (at_builtin; refine step_append rfl (.tmp 106) (.tmp 110) 66 rfl w.heap.size 46 i0 _ 8 Tryd.underlying66 hi hz0 hz1 hz2 rfl (by omega) _ k _ rfl ((own_drewN hown _).alloc _) _ 0 1 1 [U64 (rcut 32 (rnext32 ws k))] rfl rfl (new_one _ 46 _) (by simp [Value.oneCell']) (by omega) (by omega) (by have := hbel.size; simp; omega) ?_; intro g2 cap2 w2 hown2 _ hb2)
        go_roundw
        case rel =>
          refine ⟨k + 1, g2, cap2, by omega, by go_num, rfl, ?_, ((below_drewN hbel _).alloc hbel.size _).trans hb2⟩
          rw [rsch32, if_neg h16, ← HWS.out, List.map_append]
          exact hown2
        case measure => simp [intOf]; omega
    · have hd1 : decide ((k : Int) < 64) = false := decide_eq_false (by omega)
      obtain ⟨ws, hws⟩ : ∃ ws, ws = rsch32 S.data.toList 64 := ⟨_, rfl⟩
      have hownW : wr.ownsRow w.heap.size 46 1 (.slice (some ⟨g, 0, none⟩) 64 cap) 64 (ws.map U64) := by
        have e : k = 64 := by omega
        rw [e] at hown; rw [hws]; exact hown
      have hke : (Value.slice (some ⟨g, 0, none⟩) k cap) = Value.slice (some ⟨g, 0, none⟩) 64 cap := by rw [show k = 64 by omega]
      have HLEN : Hid (ws.length = 64) := hid (by rw [hws]; exact length_rsch32 _ _)
      have HWS := hid hws
      clear hws hown
      rw [hke]
      clear hke
      have hbh : hb < w.heap.size := block_lt_of_cell (hh 0 (by omega))
      have hgl := own_lt hownW
      have hsz := hbel.size
      have hhr : ∀ (o : Obj) j u, ((rlist st).map U64)[j]? = some u → (wr.alloc o).cell? ⟨hb, 0 + j, none⟩ = some u := fun o j u hu => by
        have hj : j < 8 := by have := (List.getElem?_eq_some_iff.1 hu).1; simpa [rlist] using this
        rw [Nat.zero_add, ((hbel.alloc hsz o).cell (p := ⟨hb, j, none⟩) hbh), hh j hj, ← hu]
        match j, hj with
        | 0, _ => rfl
        | 1, _ => rfl
        | 2, _ => rfl
        | 3, _ => rfl
        | 4, _ => rfl
        | 5, _ => rfl
        | 6, _ => rfl
        | 7, _ => rfl
      go_wp2_with (at_builtin; refine step_append rfl (.tmp 112) (.tmp 113) 66 rfl w.heap.size 46 i0 _ 8 Tryd.underlying66 hi hz0 hz1 hz2 rfl (by omega) _ 0 [] rfl (own_lit wr 46 #[] 0 rfl (by decide) _ hsz) hb 0 8 hc ((rlist st).map U64) rfl rfl (hhr _) (by intro u hu; simp [rlist] at hu; rcases hu with rfl | rfl | rfl | rfl | rfl | rfl | rfl | rfl <;> rfl) (by omega) (by omega) (by simp; omega) ?_; intro vb vc w2 hv2 hg2 hb2)
      have hbel2 : Below w.heap.size w w2 := (hbel.alloc hsz _).trans hb2
      have hW2 := own_kept (g0 := wr.heap.size) (hownW.alloc (.cells #[] 46)) hg2 (by omega)
      have hV2 : HRow32 w2 vb st := fun j hj => by
        have := own_cell hv2 j (by omega)
        rw [this]
        match j, hj with
        | 0, _ => rfl
        | 1, _ => rfl
        | 2, _ => rfl
        | 3, _ => rfl
        | 4, _ => rfl
        | 5, _ => rfl
        | 6, _ => rfl
        | 7, _ => rfl
      have hvl := own_lt hv2
      clear hv2 hg2 hb2 hownW hhr hbel hsz hgl hd1 hlt hk
      go_wp2
      go_loopw [13, 14] (fun V i wx => RefV32 w ws st g cap V i wx) (fun _ i _ => 64 - (intOf i).toNat)
      case atStart => exact ⟨0, vb, vc, Nat.zero_le _, rfl, rfl, hV2, hW2, hbel2, hvl⟩
      case round =>
        clear hV2 hW2 hbel2 hvl
        obtain ⟨t, vx, vd, ht, rfl, rfl, hV, hW, hbel, hvl⟩ := hrel
        by_cases hlt : t < 64
        · have hd1 : decide ((t : Int) < 64) = true := decide_eq_true (by omega)
          obtain ⟨s, hs⟩ : ∃ s, s = rrounds32 ws st t := ⟨_, rfl⟩
          rw [← hs] at hV
          have hnx : Hid (rrounds32 ws st (t + 1) = rround32 ws s t) := hid (by rw [hs]; rfl)
          clear hs
          obtain ⟨s0, s1, s2, s3, s4, s5, s6, s7⟩ := s
          have c0 : wr.cell? ⟨vx, 0, none⟩ = some (U64 s0) := hV 0 (by omega)
          have c1 : wr.cell? ⟨vx, 1, none⟩ = some (U64 s1) := hV 1 (by omega)
          have c2 : wr.cell? ⟨vx, 2, none⟩ = some (U64 s2) := hV 2 (by omega)
          have c4 : wr.cell? ⟨vx, 4, none⟩ = some (U64 s4) := hV 4 (by omega)
          have c5 : wr.cell? ⟨vx, 5, none⟩ = some (U64 s5) := hV 5 (by omega)
          have c6 : wr.cell? ⟨vx, 6, none⟩ = some (U64 s6) := hV 6 (by omega)
          go_wp2
          go_quiet (fail)
          clear c0 c1 c2 c4 c5 c6
          go_wp2_with (go_at_call 50; refine (three64_turn _ _ _ _ _ (by decide) (by decide) (by decide) (by decide) (by decide) (by decide)).mono ?_; rintro e w' ⟨rfl, m, rfl⟩)
          refine (k_any t _ (by omega)).mono ?_
          rintro e wk ⟨rfl, hbk⟩
          have hsz := hbel.size
          have hwl := own_lt hW
          have hsk := hbk.size
          simp only [World.heap_drewN] at hsk
          have hVk : HRow32 wk vx ⟨s0, s1, s2, s3, s4, s5, s6, s7⟩ := HRow32.below (w := wr.drewN _) hV hbk (by simpa using hvl)
          have hWk := own_below (own_drewN hW _) hbk (by simpa using hwl)
          have hbelk : Below w.heap.size w wk := (below_drewN hbel _).trans (hbk.mono (by simpa using hsz))
          have hvk : vx < wk.heap.size := by omega
          clear hV hW hbk hbel hvl hwl hsk hsz
          have c3 : wk.cell? ⟨vx, 3, none⟩ = some (U64 s3) := hVk 3 (by omega)
          have c7 : wk.cell? ⟨vx, 7, none⟩ = some (U64 s7) := hVk 7 (by omega)
          have cw : wk.cell? ⟨g, t, none⟩ = some (U64 (ws.getD t 0)) := by
            rw [own_cell hWk t hlt, List.getElem?_map, List.getElem?_eq_getElem (by rw [HLEN.out]; exact hlt), List.getD_eq_getElem?_getD, List.getElem?_eq_getElem (by rw [HLEN.out]; exact hlt)]; rfl
          obtain ⟨wt, hwt⟩ : ∃ x, x = ws.getD t 0 := ⟨_, rfl⟩
          obtain ⟨kt, hkt⟩ : ∃ x, x = K512.getD t 0 := ⟨_, rfl⟩
          rw [← hwt] at cw
          rw [← hkt]
          have HWT := hid hwt
          have HKT := hid hkt
          clear hwt hkt
          have hk0 := n64_nonneg kt
          have hk1 := n64_lt kt
          have hq : n64 kt / 4294967296 = n64 (kt / 4294967296) := by unfold n64; rw [UInt64.toNat_div]; show _ = ((kt.toNat / 4294967296 : Nat) : Int); omega
          go_wp2_with (go_at_call 50; refine (three32_turn _ _ _ _ _ (by decide) (by decide) (by decide) (by decide) (by decide) (by decide)).mono ?_; rintro e w' ⟨rfl, m, rfl⟩)
          have hsg : ¬ (IntKind.u64.signed = true) := by decide
          go_quiet ((go_at_call 51; exact quiet_add_same (cut32_any _ _)))
          clear hsg
          go_wp2_with (go_at_call 51; refine (cut32_any _ _).mono ?_; rintro e w' ⟨rfl, rfl⟩)
          refine region_tail 18 (by kernel_rfl) (by kernel_rfl) ?_
          simp only [List.take_succ_cons, List.take_zero, List.drop_succ_cons, List.drop_zero]
          repeat (first | still_step | still_call (cut32_any _ _))
          refine wpStill_nil ?_
          clear c3 c7 cw
          go_wp2
          go_roundw
          case rel =>
            refine ⟨t + 1, wk.heap.size, 8, by omega, by go_num, rfl, ?_, own_drewN (hWk.alloc _) _, below_drewN (hbelk.alloc hbelk.size _) _, by simp⟩
            rw [hnx.out, rround32, ← HKT.out, ← HWT.out]
            exact HRow32.drewN (HRow32.new wk _ _ _ _ _ _ _ _) _
          case measure => simp [intOf]; omega
        · have hd1 : decide ((t : Int) < 64) = false := decide_eq_false (by omega)
          obtain ⟨s, hs⟩ : ∃ s, s = rrounds32 ws st 64 := ⟨_, rfl⟩
          have hV2 : HRow32 wr vx s := by rw [hs, show 64 = t by omega]; exact hV
          have HS2 := hid hs
          have hsz := hbel.size
          clear hs hV hW
          go_wp2
          obtain ⟨B0, hB0⟩ : ∃ B0, B0 = wr.heap.size := ⟨_, rfl⟩
          have hB1 : w.heap.size ≤ B0 := by omega
          have hB2 : vx < B0 := by omega
          have hB3 : B0 ≤ wr.heap.size := by omega
          clear hB0
          go_loopw [26, 212] (fun V i wx => RefO32 w B0 (rlist (radd32 st s)) s vx V i wx) (fun _ i _ => 8 - (intOf i).toNat)
          case atStart => exact ⟨0, wr.heap.size, 0, Nat.zero_le _, rfl, rfl, own_lit wr 46 #[] 0 rfl (by decide) _ hB3, hV2.alloc _, hbel.alloc hsz _, by simp; omega⟩
          case round =>
            obtain ⟨wo, rfl⟩ : ∃ wo : World, wo = wr := ⟨_, rfl⟩
            clear hV2 hbel hvl hsz hB3
            obtain ⟨j, go, gc, hj, rfl, rfl, hown, hV, hbel, hB3⟩ := hrel
            by_cases hlt2 : j < 8
            · have hd2 : decide ((j : Int) < 8) = true := decide_eq_true (by omega)
              have ch := (hbel.cell (p := ⟨hb, j, none⟩) hbh).trans (hh j hlt2)
              have cv := hV j hlt2
              have hj8 : (j : Int) < 8 := by omega
              have HL := hid (rlist_succ32 st s j hlt2)
              go_wp2
              go_region_law ((first | (refine step_append_if rfl (.tmp 215) (.tmp 227) 66 rfl B0 46 i0 _ 8 Tryd.underlying66 hi hz0 hz1 hz2 rfl (by omega) _ j _ rfl (hown.drew.alloc _) _ 0 1 1 [U64 (rcut 32 (stN64 st j + stN64 s j))] rfl rfl (new_one _ 46 _) (by simp [Value.oneCell']) (by omega) (by omega) (by simp; omega) ?_; intro go2 gc2 w2 hown2 _ hb2) | (go_simp; refine (cut32_any _ _).mono ?_; rintro e w' ⟨rfl, rfl⟩)))
              all_goals
                have hsz2 : wo.heap.size + 1 ≤ w2.heap.size := by have := hb2.size; simpa [heap_drew] using this
                go_wp2
                go_roundw
                case rel =>
                  refine ⟨j + 1, go2, gc2, by omega, by go_num, rfl, ?_, ?_, ?_, by omega⟩
                  · rw [HL.out, List.map_append]
                    exact hown2
                  · exact HRow32.below (HRow32.drew (hV.alloc _)) hb2 hB2
                  · exact ((hbel.alloc hbel.size _).drew).trans (hb2.mono hB1)
                case measure => simp [intOf]; omega
            · have hd2 : decide ((j : Int) < 8) = false := decide_eq_false (by omega)
              have hje : (Value.slice (some ⟨go, 0, none⟩) j gc) = Value.slice (some ⟨go, 0, none⟩) 8 gc := by rw [show j = 8 by omega]
              have hown8 : wo.ownsRow B0 46 1 (.slice (some ⟨go, 0, none⟩) 8 gc) 8 ((rlist (radd32 st s)).map U64) := by
                rw [show j = 8 by omega, List.take_of_length_le (by simp [rlist])] at hown; exact hown
              rw [hje]
              clear hje hown
              have hbase := own_base hown8
              go_wp2
              go_ret
              exact ⟨go, gc, rfl, by omega, by rw [rblock32, ← HWS.out, ← HS2.out]; exact HRow32.of_own hown8, hbel⟩
end Go.Proofs.YtghjndcbnnbloaaDoor
