/-
  The law MessageKinds over worlds.
-/
import Derived.Test.YtfjiaflljabjkaaDoorVe
import Derived.Test.YtfjiaflljabjkaaDoorEk
namespace Go.Proofs.YtfjiaflljabjkaaDoor
open Go.RowKit
def eo4 (a b c : Nat × Nat) : Nat → Nat × Nat
  | 1 => a
  | 2 => b
  | 3 => c
  | _ => (0, 0)
theorem messageKinds_any (k : Int) (w : World) {r : List (String × DataW Unit)} {te tf tb : List UInt8} {a b c : Nat × Nat} (ha : SentAt w 2 a te) (hb : SentAt w 0 b tf) (hc : SentAt w 3 c tb)
    (hk : laidMet Tryd.prog (("speakeasy/message.kinds", Rows.laid_speakeasy_message_kinds) :: r) w) :
    Calls Tryd.prog 9 #[.int .i64 k] w fun e w' => e = .returned (.bool true) ∧ Below w.heap.size w w' := by
  refine walk_of_meets_at (errE w (eo4 a b c)) (errE_glob _ _) (errE_top _ _) (messageKinds_ev (eo4 a b c) k) rfl (fun i x y hx hy => ?_) (known.spec ⟨known_var (n := 1) ha (by decide) (by decide), known_var (n := 3) hc (by decide) (by decide), known_var (n := 2) hb (by decide) (by decide), known_kinds hk, trivial⟩)
  match i, hx, hy with
  | 0, hx, hy => injection hx with hx; injection hy with hy; subst hx; subst hy; exact .i64 _
  | i + 1, hx, _ => simp at hx
end Go.Proofs.YtfjiaflljabjkaaDoor
