/-
  The law WireNames over worlds.
-/
import Derived.Test.YtfjiaflljabjkaaDoorWi
import Derived.Test.YtfjiaflljabjkaaDoorGZ
namespace Go.Proofs.YtfjiaflljabjkaaDoor
open Go.RowKit
def eo3 (a b c : Nat × Nat) : Nat → Nat × Nat
  | 1 => a
  | 2 => b
  | 3 => c
  | _ => (0, 0)
theorem wireNames_any (s : ByteArray) (w : World) (hs : s.size ≤ maxLen) {te tf tb : List UInt8} {a b c : Nat × Nat} (ha : SentAt w 2 a te) (hb : SentAt w 0 b tf) (hc : SentAt w 3 c tb) :
    Calls Tryd.prog 5 #[.string s] w fun e w' => e = .returned (.bool true) ∧ Below w.heap.size w w' := by
  refine walk_of_meets_at (errE w (eo3 a b c)) (errE_glob _ _) (errE_top _ _) (wireNames_ev (eo3 a b c) s.data.toList hs) rfl (fun i x y hx hy => ?_) (known.spec ⟨known_var (n := 1) ha (by decide) (by decide), known_var (n := 3) hc (by decide) (by decide), known_var (n := 2) hb (by decide) (by decide), trivial⟩)
  match i, hx, hy with
  | 0, hx, hy => injection hx with hx; injection hy with hy; subst hx; subst hy; exact .str _
  | i + 1, hx, _ => simp at hx
end Go.Proofs.YtfjiaflljabjkaaDoor
