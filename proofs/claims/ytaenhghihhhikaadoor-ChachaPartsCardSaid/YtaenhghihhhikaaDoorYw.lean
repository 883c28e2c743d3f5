/-
  The reference's words of bytes, walked.
-/
import Derived.Test.YtaenhghihhhikaaDoorXw
import Derived.Test.YtaenhghihhhikaaDoorYr
import Derived.Deep.RegionLaw
import Derived.BigRegion
import Derived.Deep.RegionHeld3
namespace Go.Proofs.YtaenhghihhhikaaDoor
open Go.RowKit

/-- A word of 32 bits in a cell of 64. -/
abbrev W64 (x : UInt32) : Value := .int .u64 (n32 x)
theorem le4 (a b c d : UInt8) : n8 a + 256 * n8 b + 65536 * n8 c + 16777216 * n8 d = n32 (le32 [a, b, c, d] 4) := by
  have h1 := a.toNat_lt; have h2 := b.toNat_lt; have h3 := c.toNat_lt; have h4 := d.toNat_lt
  have e : (le32 [a, b, c, d] 4).toNat = (((0 ||| a.toNat <<< 0 % 4294967296) ||| b.toNat <<< 8 % 4294967296) ||| c.toNat <<< 16 % 4294967296) ||| d.toNat <<< 24 % 4294967296 := rfl
  have m1 : b.toNat <<< 8 % 4294967296 = b.toNat <<< 8 := by rw [Nat.shiftLeft_eq]; omega
  have m2 : c.toNat <<< 16 % 4294967296 = c.toNat <<< 16 := by rw [Nat.shiftLeft_eq]; omega
  have m3 : d.toNat <<< 24 % 4294967296 = d.toNat <<< 24 := by rw [Nat.shiftLeft_eq]; omega
  have o1 : a.toNat ||| b.toNat <<< 8 = b.toNat <<< 8 + a.toNat := by rw [Nat.or_comm, Nat.shiftLeft_add_eq_or_of_lt (show a.toNat < 2 ^ 8 by omega)]
  have o2 : (b.toNat <<< 8 + a.toNat) ||| c.toNat <<< 16 = c.toNat <<< 16 + (b.toNat <<< 8 + a.toNat) := by rw [Nat.or_comm, Nat.shiftLeft_add_eq_or_of_lt (show b.toNat <<< 8 + a.toNat < 2 ^ 16 by rw [Nat.shiftLeft_eq]; omega)]
  have o3 : (c.toNat <<< 16 + (b.toNat <<< 8 + a.toNat)) ||| d.toNat <<< 24 = d.toNat <<< 24 + (c.toNat <<< 16 + (b.toNat <<< 8 + a.toNat)) := by rw [Nat.or_comm, Nat.shiftLeft_add_eq_or_of_lt (show c.toNat <<< 16 + (b.toNat <<< 8 + a.toNat) < 2 ^ 24 by rw [Nat.shiftLeft_eq, Nat.shiftLeft_eq]; omega)]
  unfold n8 n32
  rw [e, Nat.zero_or, Nat.shiftLeft_zero, Nat.mod_eq_of_lt (show a.toNat < 4294967296 by omega), m1, m2, m3, o1, o2, o3, Nat.shiftLeft_eq, Nat.shiftLeft_eq, Nat.shiftLeft_eq]
  omega
theorem infoU64 : (Tryd.prog.info? 30).map (fun i => (i.zero, i.size, i.bytes)) = some (some (.int .u64 0), 1, 8) := by kernel_rfl
theorem four_of (l : List UInt8) (k : Nat) (h : k + 4 ≤ l.length) : (l.drop k).take 4 = [l.getD k 0, l.getD (k + 1) 0, l.getD (k + 2) 0, l.getD (k + 3) 0] := by
  rw [List.drop_eq_getElem_cons (by omega), List.drop_eq_getElem_cons (by omega), List.drop_eq_getElem_cons (by omega), List.drop_eq_getElem_cons (by omega)]
  simp only [List.take_succ_cons, List.take_zero, List.getD_eq_getElem?_getD, List.getElem?_eq_getElem (show k < l.length by omega), List.getElem?_eq_getElem (show k + 1 < l.length by omega), List.getElem?_eq_getElem (show k + 2 < l.length by omega), List.getElem?_eq_getElem (show k + 3 < l.length by omega), Option.getD_some]
theorem byte_at (s : ByteArray) (k : Nat) (h : k < s.size) : ((s[k].toNat : Nat) : Int) = n8 (s.data.toList.getD k 0) := by
  have h2 : k < s.data.toList.length := h
  rw [List.getD_eq_getElem?_getD, List.getElem?_eq_getElem h2]; rfl
set_option maxHeartbeats 1000000 in
set_option maxRecDepth 100000 in
theorem words_any (s : ByteArray) (n : Nat) (w : World) (hs : s.size = 4 * n) (hn : n ≤ 1000) :
    Calls Tryd.prog 32 #[.string s] w fun e w' => ∃ v, e = .returned v ∧ Own w' w.heap.size 30 W64 v (leWords s.data.toList n) ∧ Below w.heap.size w w' := by
  obtain ⟨i0, hi, hz0, hz1, hz2⟩ := info_parts infoU64
  have hsl : s.data.toList.length = s.size := rfl
  go_enter Tryd.func32, Tryd.ntmps32
  go_wp2
  go_loopw [3, 4] (fun V i wr => ∃ k : Nat, k ≤ n ∧ i = .int .i64 (4 * (k : Int)) ∧ Own wr w.heap.size 30 W64 V (leWords s.data.toList k) ∧ Below w.heap.size w wr) (fun _ i _ => 4 * n - (intOf i).toNat)
  case atStart => exact ⟨0, Nat.zero_le _, rfl, Own.new w _ _ W64 [] (Nat.le_refl _) (Nat.zero_le _), (Below.refl _ _).alloc (Nat.le_refl _) _⟩
  case round =>
    obtain ⟨k, hk, rfl, hown, hbel⟩ := hrel
    by_cases hlt : k < n
    · have hd : decide (4 * (k : Int) + 3 < (s.size : Int)) = true := by simp; omega
      have q0 : 4 * k < s.size := by omega
      have q1 : 4 * k + 1 < s.size := by omega
      have q2 : 4 * k + 2 < s.size := by omega
      have q3 : 4 * k + 3 < s.size := by omega
      have b0 := byte_at s (4 * k) q0
      have b1 := byte_at s (4 * k + 1) q1
      have b2 := byte_at s (4 * k + 2) q2
      have b3 := byte_at s (4 * k + 3) q3
      have hnx : leWords s.data.toList (k + 1) = leWords s.data.toList k ++ [le32 [s.data.toList.getD (4 * k) 0, s.data.toList.getD (4 * k + 1) 0, s.data.toList.getD (4 * k + 2) 0, s.data.toList.getD (4 * k + 3) 0] 4] := by
        rw [leWords_succ, four_of _ _ (by omega)]
      obtain ⟨x0, e0⟩ : ∃ x, x = s.data.toList.getD (4 * k) 0 := ⟨_, rfl⟩
      obtain ⟨x1, e1⟩ : ∃ x, x = s.data.toList.getD (4 * k + 1) 0 := ⟨_, rfl⟩
      obtain ⟨x2, e2⟩ : ∃ x, x = s.data.toList.getD (4 * k + 2) 0 := ⟨_, rfl⟩
      obtain ⟨x3, e3⟩ : ∃ x, x = s.data.toList.getD (4 * k + 3) 0 := ⟨_, rfl⟩
      rw [← e0] at b0 hnx
      rw [← e1] at b1 hnx
      rw [← e2] at b2 hnx
      rw [← e3] at b3 hnx
      have hle := hid (le4 x0 x1 x2 x3)
      have HNX := hid hnx
      have HSL := hid hsl
      have HSZ := hid hs
      have hLn := length_leWords s.data.toList k
      have HLN := hid hLn
      have hsb : s.size ≤ 1000000 := by omega
      have k1 : (4 * (k : Int)) < s.size := by omega
      have k2 : (4 * (k : Int)) + 1 < s.size := by omega
      have k3 : (4 * (k : Int)) + 2 < s.size := by omega
      have k4 : (4 * (k : Int)) + 3 < s.size := by omega
      have z0 : (0 : Int) ≤ 4 * (k : Int) := by omega
      have z1 : (0 : Int) ≤ 4 * (k : Int) + 1 := by omega
      have z2 : (0 : Int) ≤ 4 * (k : Int) + 2 := by omega
      have z3 : (0 : Int) ≤ 4 * (k : Int) + 3 := by omega
      have HV : Hid (∀ g0 g1 g2 g3, IntKind.u64.wrap (IntKind.u64.wrap (IntKind.u64.wrap (IntKind.u64.wrap ((s[(4 * (k : Int)).toNat]'g0).toNat : Int) + IntKind.u64.wrap (256 * IntKind.u64.wrap ((s[(4 * (k : Int) + 1).toNat]'g1).toNat : Int))) + IntKind.u64.wrap (65536 * IntKind.u64.wrap ((s[(4 * (k : Int) + 2).toNat]'g2).toNat : Int))) + IntKind.u64.wrap (16777216 * IntKind.u64.wrap ((s[(4 * (k : Int) + 3).toNat]'g3).toNat : Int))) = n8 x0 + 256 * n8 x1 + 65536 * n8 x2 + 16777216 * n8 x3) := by
        intro g0 g1 g2 g3
        have t0 : (4 * (k : Int)).toNat = 4 * k := by omega
        have t1 : (4 * (k : Int) + 1).toNat = 4 * k + 1 := by omega
        have t2 : (4 * (k : Int) + 2).toNat = 4 * k + 2 := by omega
        have t3 : (4 * (k : Int) + 3).toNat = 4 * k + 3 := by omega
        have n1 := n8_lt x1; have n2 := n8_lt x2; have n3 := n8_lt x3; have n0 := n8_lt x0
        have p1 := n8_nonneg x1; have p2 := n8_nonneg x2; have p3 := n8_nonneg x3; have p0 := n8_nonneg x0
        simp only [t0, t1, t2, t3, b0, b1, b2, b3, wrap_u64]
        omega
      have v1 : IntKind.i64.wrap (4 * (k : Int) + 1) = 4 * (k : Int) + 1 := IntWalk.i64_in _ (by omega)
      have v2 : IntKind.i64.wrap (4 * (k : Int) + 2) = 4 * (k : Int) + 2 := IntWalk.i64_in _ (by omega)
      have v3 : IntKind.i64.wrap (4 * (k : Int) + 3) = 4 * (k : Int) + 3 := IntWalk.i64_in _ (by omega)
      clear b0 b1 b2 b3
      clear e0 e1 e2 e3 hnx hs hsl hLn
      go_wp2
      have hle2 : W64 (le32 [x0, x1, x2, x3] 4) = .int .u64 (n8 x0 + 256 * n8 x1 + 65536 * n8 x2 + 16777216 * n8 x3) := by rw [hle.out]
      have HLE := hid hle2
      clear hle2
      -- region
      refine wp_region_held_drew (S := fun _ => True) (by kernel_rfl) trivial (fun hHeldw => ?_)
      refine wpAnyH_take (i := 0) (oi := _) (v := ?vw0) rfl (by kernel_rfl) (by kernel_rfl) (by kernel_rfl) (fun _ _ _ h => h) (Or.inl ⟨by rfl, ?hyw0⟩) hHeldw ?_
      case hyw0 => (intro w hSw; go_simp; rfl)
      simp only [Act.put]
      refine wpAnyH_take (i := 1) (oi := _) (v := ?vw1) rfl (by kernel_rfl) (by kernel_rfl) (by kernel_rfl) (fun _ _ _ h => h) (Or.inl ⟨by rfl, ?hyw1⟩) hHeldw ?_
      case hyw1 => (intro w hSw; go_simp; rfl)
      simp only [Act.put]
      refine wpAnyH_take (i := 2) (oi := _) (v := ?vw2) rfl (by kernel_rfl) (by kernel_rfl) (by kernel_rfl) (fun _ _ _ h => h) (Or.inl ⟨by rfl, ?hyw2⟩) hHeldw ?_
      case hyw2 => (intro w hSw; go_simp; rfl)
      simp only [Act.put]
      refine wpAnyH_take (i := 3) (oi := _) (v := ?vw3) rfl (by kernel_rfl) (by kernel_rfl) (by kernel_rfl) (fun _ _ _ h => h) (Or.inl ⟨by rfl, ?hyw3⟩) hHeldw ?_
      case hyw3 => (intro w hSw; go_simp; rfl)
      simp only [Act.put]
      refine wpAnyH_take (i := 4) (oi := _) (v := ?vw4) rfl (by kernel_rfl) (by kernel_rfl) (by kernel_rfl) (fun _ _ _ h => h) (Or.inl ⟨by rfl, ?hyw4⟩) hHeldw ?_
      case hyw4 => (intro w hSw; go_simp; rfl)
      simp only [Act.put]
      refine wpAnyH_take (i := 5) (oi := _) (v := ?vw5) rfl (by kernel_rfl) (by kernel_rfl) (by kernel_rfl) (fun _ _ _ h => h) (Or.inl ⟨by rfl, ?hyw5⟩) hHeldw ?_
      case hyw5 => (intro w hSw; go_simp; rfl)
      simp only [Act.put]
      refine wpAnyH_take (i := 6) (oi := _) (v := ?vw6) rfl (by kernel_rfl) (by kernel_rfl) (by kernel_rfl) (fun _ _ _ h => h) (Or.inl ⟨by rfl, ?hyw6⟩) hHeldw ?_
      case hyw6 => (intro w hSw; go_simp; rfl)
      simp only [Act.put]
      refine wpAnyH_take (i := 7) (oi := _) (v := ?vw7) rfl (by kernel_rfl) (by kernel_rfl) (by kernel_rfl) (fun _ _ _ h => h) (Or.inl ⟨by rfl, ?hyw7⟩) hHeldw ?_
      case hyw7 => (intro w hSw; go_simp; rfl)
      simp only [Act.put]
      refine wpAnyH_take (i := 8) (oi := _) (v := ?vw8) rfl (by kernel_rfl) (by kernel_rfl) (by kernel_rfl) (fun _ _ _ h => h) (Or.inl ⟨by rfl, ?hyw8⟩) hHeldw ?_
      case hyw8 => (intro w hSw; go_simp; rfl)
      simp only [Act.put]
      refine wpAnyH_take (i := 9) (oi := _) (v := ?vw9) rfl (by kernel_rfl) (by kernel_rfl) (by kernel_rfl) (fun _ _ _ h => h) (Or.inl ⟨by rfl, ?hyw9⟩) hHeldw ?_
      case hyw9 => (intro w hSw; go_simp; rfl)
      simp only [Act.put]
      refine wpAnyH_take (i := 10) (oi := _) (v := ?vw10) rfl (by kernel_rfl) (by kernel_rfl) (by kernel_rfl) (fun _ _ _ h => h) (Or.inl ⟨by rfl, ?hyw10⟩) hHeldw ?_
      case hyw10 => (intro w hSw; go_simp; rfl)
      simp only [Act.put]
      refine wpAnyH_take (i := 11) (oi := _) (v := ?vw11) rfl (by kernel_rfl) (by kernel_rfl) (by kernel_rfl) (fun _ _ _ h => h) (Or.inl ⟨by rfl, ?hyw11⟩) hHeldw ?_
      case hyw11 => (intro w hSw; go_simp; rfl)
      simp only [Act.put]
      refine wpAnyH_take (i := 12) (oi := _) (v := ?vw12) rfl (by kernel_rfl) (by kernel_rfl) (by kernel_rfl) (fun _ _ _ h => h) (Or.inl ⟨by rfl, ?hyw12⟩) hHeldw ?_
      case hyw12 => (intro w hSw; go_simp; rfl)
      simp only [Act.put]
      refine wpAnyH_take (i := 13) (oi := _) (v := ?vw13) rfl (by kernel_rfl) (by kernel_rfl) (by kernel_rfl) (fun _ _ _ h => h) (Or.inl ⟨by rfl, ?hyw13⟩) hHeldw ?_
      case hyw13 => (intro w hSw; go_simp; rfl)
      simp only [Act.put]
      refine wpAnyH_take (i := 14) (oi := _) (v := ?vw14) rfl (by kernel_rfl) (by kernel_rfl) (by kernel_rfl) (fun _ _ _ h => h) (Or.inl ⟨by rfl, ?hyw14⟩) hHeldw ?_
      case hyw14 => (intro w hSw; go_simp; rfl)
      simp only [Act.put]
      refine wpAnyH_take (i := 15) (oi := _) (v := ?vw15) rfl (by kernel_rfl) (by kernel_rfl) (by kernel_rfl) (fun _ _ _ h => h) (Or.inl ⟨by rfl, ?hyw15⟩) hHeldw ?_
      case hyw15 => (intro w hSw; go_simp; rfl)
      simp only [Act.put]
      refine wpAnyH_take (i := 16) (oi := _) (v := ?vw16) rfl (by kernel_rfl) (by kernel_rfl) (by kernel_rfl) (fun _ _ _ h => h) (Or.inl ⟨by rfl, ?hyw16⟩) hHeldw ?_
      case hyw16 => (intro w hSw; go_simp; rfl)
      simp only [Act.put]
      refine wpAnyH_take (i := 17) (oi := _) (v := ?vw17) rfl (by kernel_rfl) (by kernel_rfl) (by kernel_rfl) (fun _ _ _ h => h) (Or.inl ⟨by rfl, ?hyw17⟩) hHeldw ?_
      case hyw17 => (intro w hSw; go_simp; rfl)
      simp only [Act.put]
      refine wpAnyH_take (i := 18) (oi := _) (v := ?vw18) rfl (by kernel_rfl) (by kernel_rfl) (by kernel_rfl) (fun _ _ _ h => h) (Or.inl ⟨by rfl, ?hyw18⟩) hHeldw ?_
      case hyw18 => (intro w hSw; go_simp; rfl)
      simp only [Act.put]
      refine wpAnyH_take (i := 19) (oi := _) (v := ?vw19) rfl (by kernel_rfl) (by kernel_rfl) (by kernel_rfl) (fun _ _ _ h => h) (Or.inl ⟨by rfl, ?hyw19⟩) hHeldw ?_
      case hyw19 => (intro w hSw; go_simp; rfl)
      simp only [Act.put]
      refine wpAnyH_take (i := 20) (oi := _) (v := ?vw20) rfl (by kernel_rfl) (by kernel_rfl) (by kernel_rfl) (fun _ _ _ h => h) (Or.inl ⟨by rfl, ?hyw20⟩) hHeldw ?_
      case hyw20 => (intro w hSw; go_simp; rfl)
      simp only [Act.put]
      refine wpAnyH_take (i := 21) (oi := _) (v := ?vw21) rfl (by kernel_rfl) (by kernel_rfl) (by kernel_rfl) (fun _ _ _ h => h) (Or.inl ⟨by rfl, ?hyw21⟩) hHeldw ?_
      case hyw21 => (intro w hSw; go_simp; rfl)
      simp only [Act.put]
      refine wpAnyH_take (i := 22) (oi := _) (v := ?vw22) rfl (by kernel_rfl) (by kernel_rfl) (by kernel_rfl) (fun _ _ _ h => h) (Or.inl ⟨by rfl, ?hyw22⟩) hHeldw ?_
      case hyw22 => (intro w hSw; go_simp; rfl)
      simp only [Act.put]
      refine wpAnyH_take (i := 23) (oi := _) (v := ?vw23) rfl (by kernel_rfl) (by kernel_rfl) (by kernel_rfl) (fun _ _ _ h => h) (Or.inl ⟨by rfl, ?hyw23⟩) hHeldw ?_
      case hyw23 => (intro w hSw; go_simp; rfl)
      simp only [Act.put]
      refine wpAnyH_take (i := 24) (oi := _) (v := ?vw24) rfl (by kernel_rfl) (by kernel_rfl) (by kernel_rfl) (fun _ _ _ h => h) (Or.inl ⟨by rfl, ?hyw24⟩) hHeldw ?_
      case hyw24 => (intro w hSw; go_simp; rfl)
      simp only [Act.put]
      refine wpAnyH_take (i := 25) (oi := _) (v := ?vw25) rfl (by kernel_rfl) (by kernel_rfl) (by kernel_rfl) (fun _ _ _ h => h) (Or.inl ⟨by rfl, ?hyw25⟩) hHeldw ?_
      case hyw25 => (intro w hSw; go_simp; rfl)
      simp only [Act.put]
      refine wpAnyH_ready (rs := [26]) (by kernel_rfl) (by simp) ?_
      refine AllReadyH.cons (o := _) rfl (fun Kc hcont => ?_) AllReadyH.nil
      go_simp
      refine hcont.out _ _ trivial (fun hHeldw1 => ?_)
      clear hcont Kc
      refine wpAnyH_ready (rs := [27]) (by kernel_rfl) (by simp) ?_
      refine AllReadyH.cons (o := _) rfl (fun Kc hcont => ?_) AllReadyH.nil
      refine step_append_lit rfl (.tmp 13) (.tmp 39) 67 rfl w.heap.size 30 i0 _ 8 W64 (fun _ => rfl) Tryd.underlying67 hi hz0 hz1 hz2 rfl (by omega) _ _ [le32 [x0, x1, x2, x3] 4] 1 rfl rfl (hown.drew.alloc _) _ 0 1 rfl (new_lit _ _ _ _ (by rw [HV.out, List.map_cons, HLE.out]; rfl)) (by rw [HLN.out]; omega) (by simp <;> exact Nat.le_succ_of_le hbel.size) ?_
      intro V2 wz hown2 _ hbz
      refine hcont.out _ _ trivial (fun hHeldw2 => ?_)
      clear hcont Kc
      refine wpAnyH_take (i := 28) (oi := _) (v := ?vw28) rfl (by kernel_rfl) (by kernel_rfl) (by kernel_rfl) (fun _ _ _ h => h) (Or.inl ⟨by rfl, ?hyw28⟩) hHeldw2 ?_
      case hyw28 => (intro w hSw; go_simp; rfl)
      simp only [Act.put]
      refine wpAnyH_done (by kernel_rfl) ?_ _
      have hsz := hbel.size
      have hbel2 : Below w.heap.size w wz := ((hbel.drew).alloc (by simpa using hsz) _).trans hbz
      clear hbz hown hbel
      go_wp2
      go_roundw
      case rel => exact ⟨k + 1, by omega, by go_num, by rw [HNX.out]; exact hown2, hbel2⟩
      case measure => simp [intOf]; omega
    · have hd : decide (4 * (k : Int) + 3 < (s.size : Int)) = false := by simp; omega
      rw [show k = n by omega] at hown
      go_wp2
      go_ret
      exact ⟨_, rfl, hown, hbel⟩
end Go.Proofs.YtaenhghihhhikaaDoor
