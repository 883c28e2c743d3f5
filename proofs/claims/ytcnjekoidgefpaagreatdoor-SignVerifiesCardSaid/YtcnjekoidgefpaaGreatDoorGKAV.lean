/-
  Texts of this claim.
-/
import Derived.Test.YtcnjekoidgefpaaGreatDoorGUV
namespace Go.Proofs.YtcnjekoidgefpaaGreatDoor
def rtX (u v : Nat) : Nat := u * (v ^ (fp - 2) % fp) % fp
theorem rtX_lt (u v : Nat) : rtX u v < fp := Nat.mod_lt _ fpos
def rtR (x : Nat) : Nat := x ^ ((fp + 3) / 2 ^ 3) % fp
theorem mI (x : Nat) : rtR x < fp := Nat.mod_lt _ fpos
def rtB (x : Nat) : Bool := decide (rtR x * rtR x % fp = x) || decide ((rtR x * iV % fp) * (rtR x * iV % fp) % fp = x)
def rtV (x : Nat) : Nat := if rtR x * rtR x % fp = x then sgN (rtR x) else if (rtR x * iV % fp) * (rtR x * iV % fp) % fp = x then sgN (rtR x * iV % fp) else 0
theorem rt_sq {x : Nat} (h : rtB x = true) : rtV x * rtV x % fp = x ∧ rtV x % 2 = 0 ∧ rtV x < fp := by
  have hr := mI x
  unfold rtB at h
  unfold rtV
  generalize rtR x = r at h hr ⊢
  have hq : r * iV % fp < fp := Nat.mod_lt _ fpos
  generalize r * iV % fp = q at h hq ⊢
  by_cases h1 : r * r % fp = x
  · rw [if_pos h1]; exact ⟨(sg_sq hr).trans h1, sg_even hr, sg_lt hr⟩
  · rw [if_neg h1]
    by_cases h2 : q * q % fp = x
    · rw [if_pos h2]; exact ⟨(sg_sq hq).trans h2, sg_even hq, sg_lt hq⟩
    · simp [h1, h2] at h
theorem yL (x : Nat) : rtV x < fp := by
  have hr := mI x
  unfold rtV
  generalize rtR x = r at hr ⊢
  split
  · exact sg_lt hr
  · split
    · exact sg_lt (Nat.mod_lt _ fpos)
    · exact fpos
theorem rt_none {x : Nat} (h : rtB x = false) : rtV x = 0 := by
  unfold rtB at h
  unfold rtV
  generalize rtR x = r at h ⊢
  generalize r * iV % fp = q at h ⊢
  rw [Bool.or_eq_false_iff] at h
  rw [if_neg (of_decide_eq_false h.1), if_neg (of_decide_eq_false h.2)]
theorem pw_mod (z n m : Nat) : (z ^ n % fp) * (z ^ m % fp) % fp = z ^ (n + m) % fp := by rw [← Nat.mul_mod, Nat.pow_add]
theorem rt_gen (z x r E n : Nat) (hE : fp = 8 * E + 5) (hn : n = E + 1) (hx : z * z % fp = x) (hr : x ^ n % fp = r) : r * r % fp = x ∨ (r * iV % fp) * (r * iV % fp) % fp = x := by
  have hp := fpos
  by_cases hz : fp ∣ z
  · obtain ⟨k, hk⟩ := hz
    have hx0 : x = 0 := by rw [← hx, hk, Nat.mul_assoc]; exact Nat.mul_mod_right _ _
    left
    have hr0 : r = 0 := by rw [← hr, hx0, Nat.zero_pow (by omega)]; exact Nat.zero_mod _
    rw [hr0, hx0]; exact Nat.zero_mod _
  · have hf : z ^ (8 * E + 4) % fp = 1 := by
      have h := mS vP hz
      rwa [show fp - 1 = 8 * E + 4 by omega] at h
    obtain ⟨w, hw⟩ : ∃ w, z ^ (4 * E + 2) % fp = w := ⟨_, rfl⟩
    have hw1 : w < fp := by rw [← hw]; exact Nat.mod_lt _ hp
    have hww : zf w * zf w = 1 := by
      rw [← zf_m, ← hw, pw_mod, show 4 * E + 2 + (4 * E + 2) = 8 * E + 4 by omega, hf, lU]
    have hrr : zf (r * r % fp) = zf w * zf x := by
      have e1 : r = z ^ (2 * E + 2) % fp := by
        rw [← hr, ← hx, ← Nat.pow_mod, show z * z = z ^ 2 by rw [Nat.pow_two], ← Nat.pow_mul, hn, show 2 * (E + 1) = 2 * E + 2 by omega]
      have e2 : x = z ^ 2 % fp := by rw [Nat.pow_two]; exact hx.symm
      rw [← zf_m, e1, pw_mod, ← hw, e2, pw_mod, show 2 * E + 2 + (2 * E + 2) = 4 * E + 2 + 2 by omega, xL]
    have hxl : x < fp := by rw [← hx]; exact Nat.mod_lt _ hp
    have hz2 : (zf w - 1) * (zf w + 1) = 0 := by grind -lia
    rcases z_dom _ _ hz2 with h | h
    · left
      have h1 : zf w = 1 := by grind -lia
      rw [h1, z_onem] at hrr
      exact tP (Nat.mod_lt _ hp) hxl hrr
    · right
      have h1 : zf w = -1 := by grind -lia
      have h2 := iV_neg r
      have hm : r * r % fp < fp := Nat.mod_lt _ hp
      have h3 : zf ((fp - r * r % fp) % fp) = zf x := by
        rw [zf_n hm, hrr, h1]; grind -lia
      rw [h2]
      exact tP (Nat.mod_lt _ hp) hxl h3
theorem rt_has {x z : Nat} (h : z * z % fp = x) : rtB x = true := by
  have hq := rt_gen z x (rtR x) ((fp - 5) / 8) _ fp_E fp_E1 h rfl
  unfold rtB
  generalize rtR x = r at hq ⊢
  rcases hq with h | h
  · rw [decide_eq_true h]; rfl
  · rw [decide_eq_true h]; exact Bool.or_true _
theorem sq_two {a b : Nat} (ha : a < fp) (hb : b < fp) (h : a * a % fp = b * b % fp) : a = b ∨ a = nF b := by
  have h1 : (zf a - zf b) * (zf a + zf b) = 0 := by
    have := congrArg zf h
    rw [zf_m, zf_m] at this
    grind -lia
  rcases z_dom _ _ h1 with h | h
  · left; exact tP ha hb (by grind -lia)
  · right; exact tP ha (uK b) (by rw [z_n hb]; grind -lia)
theorem nF_odd {b : Nat} (h : b < fp) (h0 : b ≠ 0) : nF b % 2 = (b + 1) % 2 := by
  have := fp_odd
  unfold nF
  rw [Nat.mod_eq_of_lt (show fp - b < fp by omega)]
  omega
theorem nF_zero : nF 0 = 0 := by unfold nF; rw [Nat.sub_zero, Nat.mod_self]
theorem nF_nF {b : Nat} (h : b < fp) : nF (nF b) = b := zR h
theorem sg_pick {x r : Nat} (hx : x < fp) (hr : r < fp) (h2 : r % 2 = 0) (h : r * r % fp = x * x % fp) : (if x % 2 = 1 then nF r else r) = x := by
  by_cases ho : x % 2 = 1
  · rw [if_pos ho]
    rcases sq_two hr hx h with e | e
    · omega
    · rw [e, nF_nF hx]
  · rw [if_neg ho]
    rcases sq_two hr hx h with e | e
    · exact e
    · by_cases h0 : x = 0
      · rw [e, h0, nF_zero]
      · have := nF_odd hx h0; rw [← e] at this; omega
theorem leN_set31 (l : List UInt8) (c : UInt8) (h : l.length = 32) : leN (l.set 31 c) 32 = leN l 31 + 256 ^ 31 * c.toNat := by
  have e : leN (l.set 31 c) 31 = leN l 31 := uS _ _ _ fun i hi => by
    rw [List.getD_eq_getElem?_getD, List.getElem?_set_ne (by omega), ← List.getD_eq_getElem?_getD]
  show leN (l.set 31 c) 31 + 256 ^ 31 * ((l.set 31 c).getD 31 0).toNat = _
  rw [e, List.getD_eq_getElem?_getD, List.getElem?_set_self (by omega)]; rfl
theorem top_bit (a : UInt8) (h : a.toNat < 128) : (a ||| UInt8.ofNat 128).toNat = a.toNat + 128 := by
  rw [UInt8.toNat_or, show (UInt8.ofNat 128).toNat = 2 ^ 7 * 1 from rfl, Nat.or_comm, ← Nat.two_pow_add_eq_or_of_lt (by simpa using h)]
  omega
theorem last_lt (y : Nat) (h : y < fp) : ((bsN y 32).getD 31 0).toNat = y / 256 ^ 31 ∧ y / 256 ^ 31 < 128 := by
  have h1 : y / 256 ^ 31 < 128 := by
    rw [Nat.div_lt_iff_lt_mul (by decide)]
    exact Nat.lt_trans h (by decide)
  rw [bs_get y 32 31 (by omega), UInt8.toNat_ofNat_of_lt' (by show _ < 256; exact Nat.mod_lt _ (by decide)), Nat.mod_eq_of_lt (by omega)]
  exact ⟨rfl, h1⟩
theorem enc_le (x y : Nat) (hy : y < fp) : leN (encN x y) 32 = y + (if x % 2 = 1 then 2 ^ 255 else 0) := by
  have hb : leN (bsN y 32) 32 = y := by rw [leN_bsN, Nat.mod_eq_of_lt (Nat.lt_trans hy (by decide))]
  unfold encN
  split
  · obtain ⟨h1, h2⟩ := last_lt y hy
    rw [leN_set31 _ _ (fY _ _), top_bit _ (by omega)]
    have h3 : leN (bsN y 32) 31 + 256 ^ 31 * ((bsN y 32).getD 31 0).toNat = y := hb
    rw [Nat.mul_add, ← Nat.add_assoc, h3]
  · exact hb
theorem enc_of (x y : Nat) (hy : y < fp) : ofV (encN x y) = y := by
  have h := enc_le x y hy
  unfold ofV
  rw [h, show (2 : Nat) ^ 255 = 57896044618658097711785492504343953926634992332820282019728792003956564819968 by decide]
  unfold fp at *
  split <;> omega
theorem enc_top (x y : Nat) (hy : y < fp) : ((encN x y).getD 31 0).toNat / 128 = x % 2 := by
  obtain ⟨h1, h2⟩ := last_lt y hy
  unfold encN
  split
  · rename_i ho
    rw [List.getD_eq_getElem?_getD, List.getElem?_set_self (by rw [fY]; decide)]
    show ((bsN y 32).getD 31 0 ||| UInt8.ofNat 128).toNat / 128 = _
    rw [top_bit _ (by omega)]; omega
  · rename_i ho
    rw [h1]; omega
def decU (y : Nat) : Nat := sF (mF y y) 1
def decV (y : Nat) : Nat := aF (mF (mF y y) dV) 1
def decR (y : Nat) : Nat := rtX (decU y) (decV y)
def decX (b : List UInt8) : Nat := if 128 ≤ (b.getD 31 0).toNat then nF (rtV (decR (ofV b))) else rtV (decR (ofV b))
def decB (b : List UInt8) : Bool := rtB (decR (ofV b)) && (encN (decX b) (ofV b) == b)
theorem gU (b : List UInt8) : decX b < fp := by
  unfold decX
  split
  · exact uK _
  · exact yL _
theorem jM (y : Nat) : decV y ≠ 0 := by
  intro h
  have h1 := congrArg zf h
  unfold decV at h1
  rw [z_a, z_m, z_m, lU, pR] at h1
  refine Ed.d_sq KF (zf y) ?_
  rw [KF_d]; grind -lia
theorem dec_rel {y z : Nat} (h : z * z % fp = decR y) : Ed.On KF.d (zf z, zf y) := by
  have hv : decV y < fp := wX _ _
  have h1 := (q_pos (u := decU y) (v := decV y) (r := z) (oU _ _) (jM y) hv).2 h
  have h2 := congrArg zf h1
  rw [zf_m, zf_m] at h2
  unfold decV decU at h2
  rw [z_a, z_m, z_m, z_s (by decide), z_m, lU] at h2
  show _ * _ - _ * _ = _
  rw [KF_d]
  grind -lia
theorem dec_on {b : List UInt8} (h : decB b = true) : Ed.On KF.d (zf (decX b), zf (ofV b)) := by
  unfold decB at h
  rw [Bool.and_eq_true] at h
  obtain ⟨h1, h2, h3⟩ := rt_sq h.1
  have hr := yL (decR (ofV b))
  refine dec_rel ?_
  unfold decX
  split
  · exact (neg_sq hr).trans h1
  · exact h1
theorem on_dec {x y : Nat} (ho : Ed.On KF.d (zf x, zf y)) : x * x % fp = decR y := by
  refine (q_pos (u := decU y) (v := decV y) (r := x) (oU _ _) (jM y) (wX _ _)).1 <| tP (Nat.mod_lt _ fpos) (oU _ _) ?_
  rw [zf_m, zf_m]
  unfold decV decU
  rw [z_a, z_m, z_m, z_s (by decide), z_m, lU]
  have h : zf y * zf y - zf x * zf x = 1 + KF.d * (zf x * zf x) * (zf y * zf y) := ho
  rw [KF_d] at h
  grind -lia
theorem dec_enc {x y : Nat} (hx : x < fp) (hy : y < fp) (ho : Ed.On KF.d (zf x, zf y)) : ofV (encN x y) = y ∧ decX (encN x y) = x ∧ decB (encN x y) = true := by
  have hy2 := enc_of x y hy
  have hd := on_dec ho
  have hb := rt_has hd
  obtain ⟨h1, h2, h3⟩ := rt_sq hb
  have ht := enc_top x y hy
  have hX : decX (encN x y) = x := by
    unfold decX
    rw [hy2]
    have := sg_pick hx h3 h2 (h1.trans hd.symm)
    by_cases ho : x % 2 = 1
    · rw [if_pos ho] at this; rw [if_pos (by omega)]; exact this
    · rw [if_neg ho] at this; rw [if_neg (by omega)]; exact this
  refine ⟨hy2, hX, ?_⟩
  unfold decB
  rw [hX, hy2, hb]
  simp
end Go.Proofs.YtcnjekoidgefpaaGreatDoor
namespace Go.Proofs.YtcnjekoidgefpaaGreatDoor
def keyN (K : List UInt8) : List UInt8 := encQ (tbQ K 256)
theorem fX (K : List UInt8) : (keyN K).length = 32 := fW _ _
theorem key_enc (K : List UInt8) : keyN K = encP (Ed.sm KF zB (leN K 32)) := encQ_ok (tbQ_end K)
theorem dec_encP {p : ZF × ZF} (ho : Ed.On KF.d p) : ofV (encP p) = p.2.val ∧ decX (encP p) = p.1.val ∧ decB (encP p) = true := by
  refine dec_enc p.1.isLt p.2.isLt ?_
  rw [iU, iU]; exact ho
theorem dec_key (K : List UInt8) : ofV (keyN K) = (Ed.sm KF zB (leN K 32)).2.val ∧ decX (keyN K) = (Ed.sm KF zB (leN K 32)).1.val ∧ decB (keyN K) = true := by
  rw [key_enc]; exact dec_encP (Ed.sm_on KF sW _)
end Go.Proofs.YtcnjekoidgefpaaGreatDoor
