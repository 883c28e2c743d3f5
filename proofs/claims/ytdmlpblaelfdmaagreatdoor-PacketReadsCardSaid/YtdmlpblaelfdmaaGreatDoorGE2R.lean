/-
  Texts of this claim.
-/
import Derived.Laws.Build
import Derived.OwnWalk
import Derived.Test.YtdmlpblaelfdmaaGreatDoorGER
namespace Go.Proofs.YtdmlpblaelfdmaaGreatDoor
open Go.RowKit
section
variable {α : Type} {f : α → List AV} {z : Nat}
end
end Go.Proofs.YtdmlpblaelfdmaaGreatDoor
namespace Go.Proofs.YtdmlpblaelfdmaaGreatDoor
open Go.RowKit
section
variable {P : Program} {T : Nat → Option AV} {H : Hp} {nm : Nat} {wr : Bool} {d : Option Tmp} {ty t : TypeId} {ps : String} {af : Array Edge} {gd : Option (Nat × Bool)} {x y : Operand}
end
end Go.Proofs.YtdmlpblaelfdmaaGreatDoor
namespace Go.Proofs.YtdmlpblaelfdmaaGreatDoor
open Go.RowKit
theorem op_makeIface {P : Program} {T : Nat → Option AV} {H : Hp} {nm : Nat} {wr : Bool} {d : Option Tmp} {ty t : TypeId} {ps : String} {af : Array Edge} {gd : Option (Nat × Bool)} {x : Operand} {u : AV} (hc : P.concrete t = true) (hx : aev T x = some u) :
    OpSem P T H ⟨d, .makeInterface t x, ty, ps, af, gd⟩ nm wr (.ifc t u) [] :=
  .quiet fun E a w h => ⟨.iface t (a.eval x), by simp [execOp, run_makeInterface _ _ _ hc], .ifc _ _ _ (h x mem1 _ hx)⟩
theorem results_tmp4 {fn : Func} {t u v q : Tmp} (h : fn.results = #[.tmp t, .tmp u, .tmp v, .tmp q]) (tmps : Array Value) (P : Program) (w : World) :
    (results fn tmps).run P w = .ok (.tuple #[tmps.getD t undef, tmps.getD u undef, tmps.getD v undef, tmps.getD q undef]) w := by
  simp [results, h]
theorem ret4v {P : Program} {nt : Nat} {st : St} {fn : Func} {t u q p : Tmp} {v1 v2 v3 v4 v1' v2' v3' v4' : AV} {H1 : List (Nat × Option ABlk)} {e : Exit} (hr : fn.results = #[.tmp t, .tmp u, .tmp q, .tmp p]) (he : e = .ret ∨ e = .normal) (hv : lk st.T t = some v1') (hu : lk st.T u = some v2') (hq : lk st.T q = some v3') (hp : lk st.T p = some v4') (h1 : v1' = v1) (h2 : v2' = v2) (h3 : v3' = v3) (h4 : v4' = v4) (hH : HSub (hget st.H) H1) : RetOk P fn nt (.tup [v1, v2, v3, v4]) H1 e st := by
  subst h1; subst h2; subst h3; subst h4
  exact ⟨he, hH.spec, fun _ _ _ a w hR => ⟨_, results_tmp4 hr a.tmps P w, .tup _ _ rfl fun i x y hx hy => by
    match i, hx, hy with
    | 0, hx, hy => simp at hx hy; subst hx; subst hy; have := hR.rt t v1' hv; simpa using this
    | 1, hx, hy => simp at hx hy; subst hx; subst hy; have := hR.rt u v2' hu; simpa using this
    | 2, hx, hy => simp at hx hy; subst hx; subst hy; have := hR.rt q v3' hq; simpa using this
    | 3, hx, hy => simp at hx hy; subst hx; subst hy; have := hR.rt p v4' hp; simpa using this
    | i + 4, hx, _ => simp at hx⟩⟩
end Go.Proofs.YtdmlpblaelfdmaaGreatDoor
