/-
  The reference's Spread, walked.
-/
import Derived.Test.YtghjndcbnnbloaaDoorPr
import Derived.Test.YtghjndcbnnbloaaDoorSd
namespace Go.Proofs.YtghjndcbnnbloaaDoor
open Go.RowKit
theorem ba_of_list {a : ByteArray} {l : List UInt8} (h : a.data.toList = l) : a = ⟨l.toArray⟩ := by
  subst h
  rfl
def RSRel (w : World) (K lab : List UInt8) (N : Nat) (o l i : Value) (wr : World) : Prop :=
  ∃ (k : Nat) (O S : ByteArray), k ≤ N ∧ i = .int .i64 ((k : Int) + 1) ∧ o = .string O ∧ l = .string S ∧ S.data.toList = lastP K lab k ∧ S.size ≤ 32 ∧ O.data.toList = outP K lab k ∧ O.size = 32 * k ∧ Below w.heap.size w wr
set_option maxHeartbeats 1000000 in
set_option maxRecDepth 100000 in
theorem refSpread_nat (K lab : ByteArray) (m : Nat) (w : World) (hKs : K.size ≤ 1000) (hlab : lab.size ≤ 1000) (hm : m ≤ 8160) :
    Calls Tryd.prog 23 #[.string K, .string lab, .int .i64 m] w fun e w' => e = .returned (.string ⟨(spreadL K.data.toList lab.data.toList m).toArray⟩) ∧ Below w.heap.size w w' := by
  obtain ⟨N, hN⟩ : ∃ N, N = (m + 31) / 32 := ⟨_, rfl⟩
  have hN255 : N ≤ 255 := by omega
  have hN1 : ∀ k, k < N → 32 * k < m := fun k hk => by omega
  have hN2 : m ≤ 32 * N := by omega
  have HNE := hid hN
  have HN1 := hid hN1
  clear hN hN1
  go_enter Tryd.func23, Tryd.ntmps23
  go_wp2
  go_loopw [7, 8, 9] (fun o l i wr => RSRel w K.data.toList lab.data.toList N o l i wr) (fun _ _ i _ => N + 1 - (intOf i).toNat)
  case atStart => exact ⟨0, ⟨#[]⟩, ⟨#[]⟩, Nat.zero_le _, rfl, rfl, rfl, rfl, Nat.zero_le _, rfl, rfl, Below.refl _ _⟩
  case round =>
    obtain ⟨k, O, S, hk, rfl, rfl, rfl, hSl, hSs, hOl, hOs, hbel⟩ := hrel
    by_cases hlt : k < N
    · have h32 := HN1.out k hlt
      have hlo : O.size < m := by omega
      obtain ⟨b, hb⟩ : ∃ b, b = UInt8.ofNat (k + 1) := ⟨_, rfl⟩
      have hbw : IntKind.u8.wrap ((k : Int) + 1) = n8 b := by
        rw [hb]; unfold n8; rw [UInt8.toNat_ofNat']
        show ((k : Int) + 1) % 256 = _
        omega
      obtain ⟨D, hD⟩ : ∃ D, D = lastP K.data.toList lab.data.toList (k + 1) := ⟨_, rfl⟩
      have hDl : D.length = 32 := by rw [hD]; exact length_hmacL _ _
      have hin : (S ++ lab ++ ⟨#[b]⟩ : ByteArray).data.toList = lastP K.data.toList lab.data.toList k ++ (lab.data.toList ++ [UInt8.ofNat (k + 1)]) := by
        rw [app_data', app_data', hSl, ← hb, List.append_assoc]
      have hDh : hmacL K.data.toList (S ++ lab ++ ⟨#[b]⟩ : ByteArray).data.toList = D := by rw [hin, hD]; rfl
      obtain ⟨R, hR⟩ : ∃ R : ByteArray, R = ⟨D.toArray⟩ := ⟨_, rfl⟩
      have hRs : R.size = 32 := by rw [hR]; show D.toArray.size = 32; rw [List.size_toArray, hDl]
      have hRl : R.data.toList = lastP K.data.toList lab.data.toList (k + 1) := by rw [hR, hD]
      have hOR : (O ++ R).data.toList = outP K.data.toList lab.data.toList (k + 1) := by rw [app_data', hOl, hRl]; rfl
      have hORs : (O ++ R).size = 32 * (k + 1) := by rw [ByteArray.size_append]; omega
      have hcall := fun W => refHmac_any K (S ++ lab ++ ⟨#[b]⟩ : ByteArray) W (by omega) (by rw [ByteArray.size_append, ByteArray.size_append]; show S.size + lab.size + 1 ≤ _; omega)
      rw [hDh, ← hR] at hcall
      have HC := hid hcall
      have HRL := hid hRl
      have HOR := hid hOR
      have HORS := hid hORs
      have hRs32 : R.size ≤ 32 := by omega
      clear hcall hRl hOR hORs hRs hR hDh hin hDl hD hSl hOl hOs hb
      go_wp2_with (refine wpList_string_of _ rfl 28 9 5 (.tmp 22) rfl Tryd.underlying28 Tryd.underlying5 Tryd.underlying9 wr.heap.size 0 1 1 [b] rfl rfl (bytes_of_list' (Blk.new wr 5 _)) ?_)
      refine (HC.out _).mono ?_
      rintro e w2 ⟨rfl, hbel2⟩
      have hb02 : Below w.heap.size w w2 := (hbel.alloc hbel.size _).trans (hbel2.mono (by have := hbel.size; simp; omega))
      clear hbel2 hbel
      go_wp2
      go_roundw
      case rel => exact ⟨k + 1, O ++ R, R, by omega, by go_num, rfl, rfl, HRL.out, hRs32, HOR.out, HORS.out, hb02⟩
      case measure => simp [intOf]; omega
    · have hno : ¬ O.size < m := by omega
      have hmO : m ≤ O.size := by omega
      obtain ⟨X, hX⟩ : ∃ X, X = (spreadL K.data.toList lab.data.toList m) := ⟨_, rfl⟩
      have hXe : O.extract 0 m = ⟨X.toArray⟩ := ba_of_list (by
        rw [extract_data32, hOl, List.drop_zero, Nat.sub_zero, show k = N by omega, hX, HNE.out]; rfl)
      have HX := hid hX
      have HXE := hid hXe
      clear hX hXe hSl hOl hOs
      go_wp2
      go_ret
      exact ⟨by rw [← HX.out, ← HXE.out]; rfl, hbel⟩
end Go.Proofs.YtghjndcbnnbloaaDoor
