/-
  Texts of this claim.
-/
import Derived.Test.YticickigndgpcaaDoorGZA
import Derived.Test.YticickigndgpcaaDoorGKA
namespace Go.Proofs.YticickigndgpcaaDoor
open Go.ChangeShapes Go.WideShapes Go.ChangeAt Go.RowKit
def errTexts : List (List UInt8) := [[97, 110, 32, 97, 114, 103, 117, 109, 101, 110, 116, 32, 116, 104, 97, 116, 32, 109, 97, 121, 32, 110, 111, 116, 32, 98, 101], [98, 121, 116, 101, 115, 32, 97, 114, 101, 32, 119, 97, 110, 116, 105, 110, 103], [98, 121, 116, 101, 115, 32, 116, 104, 97, 116, 32, 115, 97, 121, 32, 110, 111, 116, 104, 105, 110, 103], [109, 111, 114, 101, 32, 116, 104, 97, 110, 32, 116, 104, 101, 114, 101, 32, 109, 97, 121, 32, 98, 101], [97, 32, 115, 117, 109, 32, 116, 104, 97, 116, 32, 100, 111, 101, 115, 110, 39, 116, 32, 102, 105, 116], [110, 111, 116, 32, 110, 111, 119], [116, 104, 101, 114, 101, 32, 105, 115, 32, 110, 111, 32, 114, 111, 111, 109], [116, 104, 101, 114, 101, 32, 105, 115, 32, 110, 111, 110, 101], [105, 116, 32, 105, 115, 32, 116, 104, 101, 114, 101, 32, 97, 108, 114, 101, 97, 100, 121], [97, 32, 107, 101, 121, 32, 116, 104, 97, 116, 32, 109, 97, 121, 32, 110, 111, 116, 32, 98, 101], [97, 32, 115, 105, 103, 110, 97, 116, 117, 114, 101, 32, 116, 104, 97, 116, 32, 100, 111, 101, 115, 110, 39, 116, 32, 102, 105, 116], [97, 110, 111, 116, 104, 101, 114, 32, 118, 101, 114, 115, 105, 111, 110], [110, 111, 116, 104, 105, 110, 103, 32, 105, 110, 32, 99, 111, 109, 109, 111, 110], [97, 110, 111, 116, 104, 101, 114, 32, 104, 111, 115, 116, 39, 115, 32, 107, 101, 121], [105, 116, 32, 109, 97, 121, 32, 110, 111, 116, 32, 99, 111, 109, 101, 32, 105, 110], [109, 111, 114, 101, 32, 116, 104, 97, 110, 32, 105, 116, 115, 32, 115, 104, 97, 114, 101], [97, 32, 110, 97, 109, 101, 32, 116, 104, 97, 116, 32, 109, 97, 121, 32, 110, 111, 116, 32, 98, 101], [105, 116, 32, 105, 115, 32, 103, 111, 110, 101], [98, 101, 121, 111, 110, 100, 32, 116, 104, 101, 32, 119, 105, 110, 100, 111, 119], [116, 104, 101, 114, 101, 32, 105, 115, 32, 110, 111, 32, 115, 117, 99, 104, 32, 107, 105, 110, 100]]
theorem texts_ne : ∀ i, i < 20 → ∀ j, j < 20 → errTexts.getD i [] = errTexts.getD j [] → i = j := by decide +kernel
theorem known_blk {W : World} {g n : Nat} {text : List UInt8} {eo : Nat → Nat × Nat} (h : SentAt W g (eo n) text) (hn : n < 49) : (⟨AV.agg [], errT, false⟩ : ABlk).own = false ∧ ∃ l s, errE W eo (401 + n) = some (l, s) ∧ BAt (errE W eo) ⟨.agg [], errT, false⟩ W l s := by
  obtain ⟨_, ⟨arr, t, h1⟩, _⟩ := h
  refine ⟨rfl, _, _, errE_err W eo n hn, arr, t, (0, 0), h1, (size_at h1).symm, ⟨⟨fun h => (by cases h), fun _ => rfl, fun _ h => absurd h (show ¬ (2000000 : Nat) ≤ 1000000 by decide)⟩, .inl rfl⟩, ?_, fun i x hx => ?_⟩
  · simp [AV.list, AV.parts]
  · simp [AV.list, AV.parts] at hx
theorem known_app {W : World} {E : Emb} : ∀ {a b : List (Nat × Option ABlk)}, known W E a → known W E b → known W E (a ++ b)
  | [], _, _, h => h
  | (_, none) :: r, _, h, k => known_app (a := r) h k
  | (_, some _) :: r, _, h, k => ⟨h.1, known_app (a := r) h.2 k⟩
theorem laid_errs {r : List (String × DataW Unit)} {W : World} (h : laidMet Tryd.prog (("speakeasy/api.ErrArg", Rows.laid_speakeasy_api_ErrArg) :: ("speakeasy/api.ErrEnd", Rows.laid_speakeasy_api_ErrEnd) :: ("speakeasy/api.ErrForm", Rows.laid_speakeasy_api_ErrForm) :: ("speakeasy/api.ErrBig", Rows.laid_speakeasy_api_ErrBig) :: ("speakeasy/api.ErrMac", Rows.laid_speakeasy_api_ErrMac) :: ("speakeasy/api.ErrState", Rows.laid_speakeasy_api_ErrState) :: ("speakeasy/api.ErrFull", Rows.laid_speakeasy_api_ErrFull) :: ("speakeasy/api.ErrNone", Rows.laid_speakeasy_api_ErrNone) :: ("speakeasy/api.ErrHave", Rows.laid_speakeasy_api_ErrHave) :: ("speakeasy/api.ErrKey", Rows.laid_speakeasy_api_ErrKey) :: ("speakeasy/api.ErrSign", Rows.laid_speakeasy_api_ErrSign) :: ("speakeasy/api.ErrVersion", Rows.laid_speakeasy_api_ErrVersion) :: ("speakeasy/api.ErrAlgo", Rows.laid_speakeasy_api_ErrAlgo) :: ("speakeasy/api.ErrHost", Rows.laid_speakeasy_api_ErrHost) :: ("speakeasy/api.ErrAuth", Rows.laid_speakeasy_api_ErrAuth) :: ("speakeasy/api.ErrQuota", Rows.laid_speakeasy_api_ErrQuota) :: ("speakeasy/api.ErrName", Rows.laid_speakeasy_api_ErrName) :: ("speakeasy/api.ErrGone", Rows.laid_speakeasy_api_ErrGone) :: ("speakeasy/api.ErrWindow", Rows.laid_speakeasy_api_ErrWindow) :: ("speakeasy/api.ErrKind", Rows.laid_speakeasy_api_ErrKind) :: r) W) : ∃ eo : Nat → Nat × Nat, (∀ i j, i < 20 → j < 20 → i ≠ j → eo i ≠ eo j) ∧ known W (errE W eo) [(3, some ⟨.agg [.err 155 (1) (offE eo (1))], errT, false⟩), (4, some ⟨.agg [.err 155 (2) (offE eo (2))], errT, false⟩), (5, some ⟨.agg [.err 155 (3) (offE eo (3))], errT, false⟩), (6, some ⟨.agg [.err 155 (4) (offE eo (4))], errT, false⟩), (7, some ⟨.agg [.err 155 (5) (offE eo (5))], errT, false⟩), (8, some ⟨.agg [.err 155 (6) (offE eo (6))], errT, false⟩), (9, some ⟨.agg [.err 155 (7) (offE eo (7))], errT, false⟩), (2, some ⟨.agg [.err 155 (8) (offE eo (8))], errT, false⟩), (1, some ⟨.agg [.err 155 (9) (offE eo (9))], errT, false⟩), (10, some ⟨.agg [.err 155 (10) (offE eo (10))], errT, false⟩), (11, some ⟨.agg [.err 155 (11) (offE eo (11))], errT, false⟩), (12, some ⟨.agg [.err 155 (12) (offE eo (12))], errT, false⟩), (13, some ⟨.agg [.err 155 (13) (offE eo (13))], errT, false⟩), (14, some ⟨.agg [.err 155 (14) (offE eo (14))], errT, false⟩), (15, some ⟨.agg [.err 155 (15) (offE eo (15))], errT, false⟩), (16, some ⟨.agg [.err 155 (16) (offE eo (16))], errT, false⟩), (0, some ⟨.agg [.err 155 (17) (offE eo (17))], errT, false⟩), (17, some ⟨.agg [.err 155 (18) (offE eo (18))], errT, false⟩), (18, some ⟨.agg [.err 155 (19) (offE eo (19))], errT, false⟩), (19, some ⟨.agg [.err 155 (20) (offE eo (20))], errT, false⟩), (401, some ⟨.agg [], errT, false⟩), (402, some ⟨.agg [], errT, false⟩), (403, some ⟨.agg [], errT, false⟩), (404, some ⟨.agg [], errT, false⟩), (405, some ⟨.agg [], errT, false⟩), (406, some ⟨.agg [], errT, false⟩), (407, some ⟨.agg [], errT, false⟩), (408, some ⟨.agg [], errT, false⟩), (409, some ⟨.agg [], errT, false⟩), (410, some ⟨.agg [], errT, false⟩), (411, some ⟨.agg [], errT, false⟩), (412, some ⟨.agg [], errT, false⟩), (413, some ⟨.agg [], errT, false⟩), (414, some ⟨.agg [], errT, false⟩), (415, some ⟨.agg [], errT, false⟩), (416, some ⟨.agg [], errT, false⟩), (417, some ⟨.agg [], errT, false⟩), (418, some ⟨.agg [], errT, false⟩), (419, some ⟨.agg [], errT, false⟩), (420, some ⟨.agg [], errT, false⟩)] := by
  have h0 := h
  have h1 := laidMet_tail h0
  have h2 := laidMet_tail h1
  have h3 := laidMet_tail h2
  have h4 := laidMet_tail h3
  have h5 := laidMet_tail h4
  have h6 := laidMet_tail h5
  have h7 := laidMet_tail h6
  have h8 := laidMet_tail h7
  have h9 := laidMet_tail h8
  have h10 := laidMet_tail h9
  have h11 := laidMet_tail h10
  have h12 := laidMet_tail h11
  have h13 := laidMet_tail h12
  have h14 := laidMet_tail h13
  have h15 := laidMet_tail h14
  have h16 := laidMet_tail h15
  have h17 := laidMet_tail h16
  have h18 := laidMet_tail h17
  have h19 := laidMet_tail h18
  obtain ⟨a0, s0⟩ := laid_err (g := 3) (text := [97, 110, 32, 97, 114, 103, 117, 109, 101, 110, 116, 32, 116, 104, 97, 116, 32, 109, 97, 121, 32, 110, 111, 116, 32, 98, 101]) h0 (by kernel_rfl) (by kernel_rfl)
  obtain ⟨a1, s1⟩ := laid_err (g := 4) (text := [98, 121, 116, 101, 115, 32, 97, 114, 101, 32, 119, 97, 110, 116, 105, 110, 103]) h1 (by kernel_rfl) (by kernel_rfl)
  obtain ⟨a2, s2⟩ := laid_err (g := 5) (text := [98, 121, 116, 101, 115, 32, 116, 104, 97, 116, 32, 115, 97, 121, 32, 110, 111, 116, 104, 105, 110, 103]) h2 (by kernel_rfl) (by kernel_rfl)
  obtain ⟨a3, s3⟩ := laid_err (g := 6) (text := [109, 111, 114, 101, 32, 116, 104, 97, 110, 32, 116, 104, 101, 114, 101, 32, 109, 97, 121, 32, 98, 101]) h3 (by kernel_rfl) (by kernel_rfl)
  obtain ⟨a4, s4⟩ := laid_err (g := 7) (text := [97, 32, 115, 117, 109, 32, 116, 104, 97, 116, 32, 100, 111, 101, 115, 110, 39, 116, 32, 102, 105, 116]) h4 (by kernel_rfl) (by kernel_rfl)
  obtain ⟨a5, s5⟩ := laid_err (g := 8) (text := [110, 111, 116, 32, 110, 111, 119]) h5 (by kernel_rfl) (by kernel_rfl)
  obtain ⟨a6, s6⟩ := laid_err (g := 9) (text := [116, 104, 101, 114, 101, 32, 105, 115, 32, 110, 111, 32, 114, 111, 111, 109]) h6 (by kernel_rfl) (by kernel_rfl)
  obtain ⟨a7, s7⟩ := laid_err (g := 2) (text := [116, 104, 101, 114, 101, 32, 105, 115, 32, 110, 111, 110, 101]) h7 (by kernel_rfl) (by kernel_rfl)
  obtain ⟨a8, s8⟩ := laid_err (g := 1) (text := [105, 116, 32, 105, 115, 32, 116, 104, 101, 114, 101, 32, 97, 108, 114, 101, 97, 100, 121]) h8 (by kernel_rfl) (by kernel_rfl)
  obtain ⟨a9, s9⟩ := laid_err (g := 10) (text := [97, 32, 107, 101, 121, 32, 116, 104, 97, 116, 32, 109, 97, 121, 32, 110, 111, 116, 32, 98, 101]) h9 (by kernel_rfl) (by kernel_rfl)
  obtain ⟨a10, s10⟩ := laid_err (g := 11) (text := [97, 32, 115, 105, 103, 110, 97, 116, 117, 114, 101, 32, 116, 104, 97, 116, 32, 100, 111, 101, 115, 110, 39, 116, 32, 102, 105, 116]) h10 (by kernel_rfl) (by kernel_rfl)
  obtain ⟨a11, s11⟩ := laid_err (g := 12) (text := [97, 110, 111, 116, 104, 101, 114, 32, 118, 101, 114, 115, 105, 111, 110]) h11 (by kernel_rfl) (by kernel_rfl)
  obtain ⟨a12, s12⟩ := laid_err (g := 13) (text := [110, 111, 116, 104, 105, 110, 103, 32, 105, 110, 32, 99, 111, 109, 109, 111, 110]) h12 (by kernel_rfl) (by kernel_rfl)
  obtain ⟨a13, s13⟩ := laid_err (g := 14) (text := [97, 110, 111, 116, 104, 101, 114, 32, 104, 111, 115, 116, 39, 115, 32, 107, 101, 121]) h13 (by kernel_rfl) (by kernel_rfl)
  obtain ⟨a14, s14⟩ := laid_err (g := 15) (text := [105, 116, 32, 109, 97, 121, 32, 110, 111, 116, 32, 99, 111, 109, 101, 32, 105, 110]) h14 (by kernel_rfl) (by kernel_rfl)
  obtain ⟨a15, s15⟩ := laid_err (g := 16) (text := [109, 111, 114, 101, 32, 116, 104, 97, 110, 32, 105, 116, 115, 32, 115, 104, 97, 114, 101]) h15 (by kernel_rfl) (by kernel_rfl)
  obtain ⟨a16, s16⟩ := laid_err (g := 0) (text := [97, 32, 110, 97, 109, 101, 32, 116, 104, 97, 116, 32, 109, 97, 121, 32, 110, 111, 116, 32, 98, 101]) h16 (by kernel_rfl) (by kernel_rfl)
  obtain ⟨a17, s17⟩ := laid_err (g := 17) (text := [105, 116, 32, 105, 115, 32, 103, 111, 110, 101]) h17 (by kernel_rfl) (by kernel_rfl)
  obtain ⟨a18, s18⟩ := laid_err (g := 18) (text := [98, 101, 121, 111, 110, 100, 32, 116, 104, 101, 32, 119, 105, 110, 100, 111, 119]) h18 (by kernel_rfl) (by kernel_rfl)
  obtain ⟨a19, s19⟩ := laid_err (g := 19) (text := [116, 104, 101, 114, 101, 32, 105, 115, 32, 110, 111, 32, 115, 117, 99, 104, 32, 107, 105, 110, 100]) h19 (by kernel_rfl) (by kernel_rfl)
  refine ⟨fun n => [a0, a1, a2, a3, a4, a5, a6, a7, a8, a9, a10, a11, a12, a13, a14, a15, a16, a17, a18, a19].getD n (0, 0), fun i j hi hj hne he => ?_, ?_⟩
  · have key : ∀ k, k < 20 → ∃ s, W.cell? ⟨([a0, a1, a2, a3, a4, a5, a6, a7, a8, a9, a10, a11, a12, a13, a14, a15, a16, a17, a18, a19].getD k (0, 0)).1, ([a0, a1, a2, a3, a4, a5, a6, a7, a8, a9, a10, a11, a12, a13, a14, a15, a16, a17, a18, a19].getD k (0, 0)).2, none⟩ = some (.string s) ∧ s.data.toList = errTexts.getD k [] := fun k hk => by
      match k, hk with
      | 0, _ => exact s0.txt
      | 1, _ => exact s1.txt
      | 2, _ => exact s2.txt
      | 3, _ => exact s3.txt
      | 4, _ => exact s4.txt
      | 5, _ => exact s5.txt
      | 6, _ => exact s6.txt
      | 7, _ => exact s7.txt
      | 8, _ => exact s8.txt
      | 9, _ => exact s9.txt
      | 10, _ => exact s10.txt
      | 11, _ => exact s11.txt
      | 12, _ => exact s12.txt
      | 13, _ => exact s13.txt
      | 14, _ => exact s14.txt
      | 15, _ => exact s15.txt
      | 16, _ => exact s16.txt
      | 17, _ => exact s17.txt
      | 18, _ => exact s18.txt
      | 19, _ => exact s19.txt
      | k + 20, hk => exact absurd hk (by omega)
    obtain ⟨s, c1, c2⟩ := key i hi
    obtain ⟨s', c3, c4⟩ := key j hj
    simp only at he
    rw [he] at c1
    rw [c1] at c3
    injection c3 with c3
    injection c3 with c3
    subst c3
    exact hne (texts_ne i hi j hj (c2.symm.trans c4))
  · exact ⟨known_var (n := 0) s0 (by decide) (by decide), known_var (n := 1) s1 (by decide) (by decide), known_var (n := 2) s2 (by decide) (by decide), known_var (n := 3) s3 (by decide) (by decide), known_var (n := 4) s4 (by decide) (by decide), known_var (n := 5) s5 (by decide) (by decide), known_var (n := 6) s6 (by decide) (by decide), known_var (n := 7) s7 (by decide) (by decide), known_var (n := 8) s8 (by decide) (by decide), known_var (n := 9) s9 (by decide) (by decide), known_var (n := 10) s10 (by decide) (by decide), known_var (n := 11) s11 (by decide) (by decide), known_var (n := 12) s12 (by decide) (by decide), known_var (n := 13) s13 (by decide) (by decide), known_var (n := 14) s14 (by decide) (by decide), known_var (n := 15) s15 (by decide) (by decide), known_var (n := 16) s16 (by decide) (by decide), known_var (n := 17) s17 (by decide) (by decide), known_var (n := 18) s18 (by decide) (by decide), known_var (n := 19) s19 (by decide) (by decide), known_blk (n := 0) s0 (by decide), known_blk (n := 1) s1 (by decide), known_blk (n := 2) s2 (by decide), known_blk (n := 3) s3 (by decide), known_blk (n := 4) s4 (by decide), known_blk (n := 5) s5 (by decide), known_blk (n := 6) s6 (by decide), known_blk (n := 7) s7 (by decide), known_blk (n := 8) s8 (by decide), known_blk (n := 9) s9 (by decide), known_blk (n := 10) s10 (by decide), known_blk (n := 11) s11 (by decide), known_blk (n := 12) s12 (by decide), known_blk (n := 13) s13 (by decide), known_blk (n := 14) s14 (by decide), known_blk (n := 15) s15 (by decide), known_blk (n := 16) s16 (by decide), known_blk (n := 17) s17 (by decide), known_blk (n := 18) s18 (by decide), known_blk (n := 19) s19 (by decide), trivial⟩
end Go.Proofs.YticickigndgpcaaDoor
