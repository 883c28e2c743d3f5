/-
  What every card of this seat needs: the listed tables' cells, and the last step of a law that returns true and leaves old memory alone.
-/
import Derived.Test.YtaenhghihhhikaaDoorCards
import Derived.Test.YtaenhghihhhikaaDoorTie
import Derived.Test.YtaenhghihhhikaaDoorXb
import Derived.Test.YtaenhghihhhikaaDoorOp
import Derived.LaidMore
import Derived.Deep.DeepHandedRow
import Derived.Lib.LaidTab
namespace Go.Proofs.YtaenhghihhhikaaDoor
open Go.ChangeShapes Go.WideShapes Go.ChangeAt Go.RowKit

theorem own : ownKnob Tryd.prog.godebug = none := by kernel_rfl
theorem laidOut : laidOutB Tryd.prog = true := by kernel_rfl
theorem gQ : Tryd.prog.globalNamed "speakeasy/chacha.quarters" = some 0 := by kernel_rfl
theorem tQ : (Tryd.prog.globals[0]?).map (·.type) = some 65 := by kernel_rfl
theorem cellsI : Tryd.prog.cellsOf 3 = 1 := by kernel_rfl
theorem cellsQ1 : Tryd.prog.cellsOf 64 = 4 := by kernel_rfl
theorem cellsQ : Tryd.prog.cellsOf 65 = 32 := by kernel_rfl
def rowQ {H : Type} (i : Nat) : DataW H := Lib.tabData .i64 [(qAt i 0 : Int), qAt i 1, qAt i 2, qAt i 3]
theorem laidQ_eq : (Rows.laid_speakeasy_chacha_quarters : DataW Unit) = .agg ((List.range 8).map rowQ) := by kernel_rfl
theorem tabQ {W : World} {rest : List (String × DataW Unit)} (h : laidMet Tryd.prog (("speakeasy/chacha.quarters", Rows.laid_speakeasy_chacha_quarters) :: rest) W) : QAt W := by
  rw [laidQ_eq] at h
  obtain ⟨ps, ⟨g', t', cs, fuel, p, q, hg', ht', hvar, hd, _, _⟩, _⟩ := h
  obtain rfl := Option.some.inj (gQ.symm.trans hg')
  obtain rfl := Option.some.inj (tQ.symm.trans ht')
  cases fuel with
  | zero => simp [DataW.trod] at hd
  | succ m =>
    rw [DataW.trod_step] at hd
    unfold DataW.trodStep at hd
    simp only [Tryd.underlying65] at hd
    split at hd
    · rename_i hs
      simp only [Option.map_eq_some_iff] at hd
      obtain ⟨ys, hy, e1⟩ := hd
      simp only [Prod.mk.injEq, DataW.agg.injEq] at e1
      intro i j hi hj
      obtain ⟨y, hyi, hyt⟩ := Lib.mapM_at hy i i (by simp [hi])
      have hy1 : y.1 = rowQ i := by
        have := congrArg (fun l => l[i]?) e1.1
        simp only [List.getElem?_map, hyi, Option.map_some, List.getElem?_range hi, Option.some.injEq] at this
        exact this
      obtain ⟨y1, y2⟩ := y
      subst hy1
      rw [cellsQ1] at hyt
      have hc := Lib.cells_of_tab Tryd.underlying64 Tryd.underlying3 cellsI cellsQ1 hyt
      have hv := World.var?_cell (P := Tryd.prog) gQ hvar (4 * i + j)
      rw [hv]
      have hcj := congrArg (fun l => l[j]?) hc
      simp only [List.getElem?_take, if_pos hj, List.getElem?_drop] at hcj
      rw [Nat.mul_comm 4 i]
      have e2 : cs[i * 4 + j]? = cs.toList[i * 4 + j]? := by simp
      rw [e2, hcj]
      match j, hj with
      | 0, _ => rfl
      | 1, _ => rfl
      | 2, _ => rfl
      | 3, _ => rfl
    · cases hd
theorem laidMet_tail {P : Program} {x : String × DataW Unit} {r : List (String × DataW Unit)} {w : World} (h : laidMet P (x :: r) w) : laidMet P r w := by
  obtain ⟨ps, hv, hnd, hrows⟩ := h
  obtain ⟨n, d⟩ := x
  obtain ⟨g, t, cs, fuel, p, q, _, _, _, _, hq, rfl⟩ := hv
  exact ⟨q, hq, List.Nodup.sublist (List.sublist_append_right _ _) hnd, fun b off hm => hrows b off (List.mem_append_right _ hm)⟩
/-- Arguments read behind the call as before it, where the call only makes memory. -/
theorem trodAll_below {H : Type} {enc : TypeId × Value → H} {W W' : World} (hb : Below W.heap.size W W') : ∀ (ts : List TypeId), (∀ t ∈ ts, Tryd.prog.readableRec t = true ∧ t < Tryd.prog.types.size) → ∀ (vs : List Value) (ds : List (DataW H)) (ps : List MemPlace),
    DataW.TrodAll enc Tryd.prog W 0 (fun _ => true) true ts vs ds ps → (∀ x ∈ ps, x.block < W.heap.size) → DataW.TrodAll enc Tryd.prog W' 0 (fun b => decide (b < W.heap.size)) true ts vs ds ps
  | [], _, vs, ds, ps, h, _ => by
    obtain ⟨rfl, rfl, rfl⟩ := trodAll_nil h
    exact trodAll_mk0
  | t :: ts, ht, vs, ds, ps, h, hlt => by
    obtain ⟨v, vs', d, ds', p, q, rfl, rfl, rfl, h0, hr⟩ := trodAll_cons h
    exact trodAll_cons_mk (Below.trod laidOut (ht t (by simp)).1 (ht t (by simp)).2 h0 hb (fun x hx => hlt x (by simp [hx])))
      (trodAll_below hb ts (fun t' h' => ht t' (by simp [h'])) vs' ds' q hr (fun x hx => hlt x (by simp [hx])))
/-- The last step of a law: it returned true, and below the heap's size nothing has turned. -/
theorem law_post {H : Type} {enc : TypeId × Value → H} {f : Func} {s : ChangeSpec} {W W' : World} {args : Array Value} {ds : List (DataW H)} {before : List MemPlace}
    (hs : s.vars = []) (hW : DataW.Whole enc Tryd.prog f.params.toList s.vars false W args.toList ds [] before) (hr : f.resultTypes = #[4])
    (hfn : s.fn H (ds ++ []) = { results := [.lit (.bool true)], args := ds }) (hp : (f.params.toList.all fun t => Tryd.prog.readableRec t && decide (t < Tryd.prog.types.size)) = true) (hb : Below W.heap.size W W') :
    s.post enc Tryd.prog f false true false false W args (.bool true) W' := by
  have hW' := hW
  have hlt := hW.lt
  obtain ⟨p, q, hA, hV, rfl, hfz, hnd⟩ := hW
  have hV' : q = [] := by
    rw [hs] at hV
    obtain ⟨_, h⟩ := trodVars_none hV
    exact h
  subst hV'
  refine ⟨ds, [], _, [], p, [], hW', ?_, ?_, ?_, hb.frame _, fun h => by cases h⟩
  · rw [hfn, hr]
    exact trodAll_mk1 (shut_bool Tryd.underlying4 true)
  · rw [hfn]
    refine trodAll_below hb _ (fun t ht => ?_) _ _ _ hA (fun x hx => hlt x (by simp [hx]))
    have := List.all_eq_true.1 hp t ht
    simpa using this
  · rw [hfn, hs]; rfl
end Go.Proofs.YtaenhghihhhikaaDoor
