/-
  Texts of this claim.
-/
import Derived.Test.YteefpaiefphdpaaDoorGJ2
import Derived.Test.YteefpaiefphdpaaDoorGE1
namespace Go.Proofs.YteefpaiefphdpaaDoor
open Go.ChangeShapes Go.WideShapes Go.RowKit
theorem helloLines_all (s : ByteArray) (hs : s.size ≤ maxLen) (W : World) (h : laidMet Tryd.prog Rows.helloLinesRow.laid W) :
    Calls Tryd.prog 8 #[.string s] W fun e W' => e = .returned (.bool true) ∧ Below W.heap.size W W' := by
  obtain ⟨eo, hd, hk⟩ := laid_errs h
  refine walk_of_meets_at (errE W eo) (errE_glob _ _) (errE_top _ _) (helloLines_ev eo hd s.data.toList hs) rfl (fun i x y hx hy => ?_) (known.spec hk)
  match i, hx, hy with
  | 0, hx, hy => injection hx with hx; injection hy with hy; subst hx; subst hy; exact .str _
  | i + 1, hx, _ => simp at hx
def eo11 (a b c d : Nat × Nat) : Nat → Nat × Nat
  | 0 => a
  | 2 => b
  | 3 => c
  | 11 => d
  | _ => (0, 0)
theorem helloOthers_all (n long : Int) (W : World) (h : laidMet Tryd.prog Rows.helloOthersRow.laid W) :
    Calls Tryd.prog 9 #[.int .i64 n, .int .i64 long] W fun e W' => e = .returned (.bool true) ∧ Below W.heap.size W W' := by
  have h1 := laidMet_tail h
  have h2 := laidMet_tail h1
  have h3 := laidMet_tail h2
  obtain ⟨a, ha⟩ := laid_err (g := 3) (text := errTexts.getD 0 []) h (by kernel_rfl) (by kernel_rfl)
  obtain ⟨b, hb⟩ := laid_err (g := 0) (text := errTexts.getD 2 []) h1 (by kernel_rfl) (by kernel_rfl)
  obtain ⟨c, hc⟩ := laid_err (g := 4) (text := errTexts.getD 3 []) h2 (by kernel_rfl) (by kernel_rfl)
  obtain ⟨d, hd⟩ := laid_err (g := 11) (text := errTexts.getD 11 []) h3 (by kernel_rfl) (by kernel_rfl)
  refine walk_of_meets_at (errE W (eo11 a b c d)) (errE_glob _ _) (errE_top _ _) (helloOthers_ev (eo11 a b c d) n long) rfl (fun i x y hx hy => ?_) (known.spec ⟨known_var (n := 2) hb (by decide) (by decide), known_var (n := 3) hc (by decide) (by decide), known_var (n := 11) hd (by decide) (by decide), known_var (n := 0) ha (by decide) (by decide), trivial⟩)
  match i, hx, hy with
  | 0, hx, hy => injection hx with hx; injection hy with hy; subst hx; subst hy; exact .i64 _
  | 1, hx, hy => injection hx with hx; injection hy with hy; subst hx; subst hy; exact .i64 _
  | i + 2, hx, _ => simp at hx
end Go.Proofs.YteefpaiefphdpaaDoor
