/-
  What every card of this seat needs: the listed tables' cells, a witness's world, and the last step of a law that returns true and leaves old memory alone.
-/
import Derived.Test.YtghjndcbnnbloaaDoorCards
import Derived.Test.YtghjndcbnnbloaaDoorTie
import Derived.Test.YtghjndcbnnbloaaDoorCl
import Derived.ProofKit
import Derived.OpenShut
import Derived.LaidMore
import Derived.Deep.DeepHandedRow
import Derived.Lib.LaidTab
namespace Go.Proofs.YtghjndcbnnbloaaDoor
open Go.ChangeShapes Go.WideShapes Go.ChangeAt Go.RowKit

theorem own : ownKnob Tryd.prog.godebug = none := by kernel_rfl
theorem laidOut : laidOutB Tryd.prog = true := by kernel_rfl
theorem g256 : Tryd.prog.globalNamed "speakeasy/sha2.k256" = some 0 := by kernel_rfl
theorem g512 : Tryd.prog.globalNamed "speakeasy/sha2.k512" = some 1 := by kernel_rfl
theorem t256 : (Tryd.prog.globals[0]?).map (·.type) = some 56 := by kernel_rfl
theorem t512 : (Tryd.prog.globals[1]?).map (·.type) = some 61 := by kernel_rfl
theorem cells56 : Tryd.prog.cellsOf 56 = 64 := by kernel_rfl
theorem cells61 : Tryd.prog.cellsOf 61 = 80 := by kernel_rfl
theorem cells40 : Tryd.prog.cellsOf 40 = 1 := by kernel_rfl
theorem cells46 : Tryd.prog.cellsOf 46 = 1 := by kernel_rfl
theorem laid256_eq : (Rows.laid_speakeasy_sha2_k256 : DataW Unit) = Lib.tabData .u32 (K256.map n32) := by kernel_rfl
theorem laid512_eq : (Rows.laid_speakeasy_sha2_k512 : DataW Unit) = Lib.tabData .u64 (K512.map n64) := by kernel_rfl
theorem laidMet_tail {P : Program} {x : String × DataW Unit} {r : List (String × DataW Unit)} {w : World} (h : laidMet P (x :: r) w) : laidMet P r w := by
  obtain ⟨ps, hv, hnd, hrows⟩ := h
  obtain ⟨n, d⟩ := x
  obtain ⟨g, t, cs, fuel, p, q, _, _, _, _, hq, rfl⟩ := hv
  exact ⟨q, hq, List.Nodup.sublist (List.sublist_append_right _ _) hnd, fun b off hm => hrows b off (List.mem_append_right _ hm)⟩
theorem tab32 {W : World} {rest : List (String × DataW Unit)} (h : laidMet Tryd.prog (("speakeasy/sha2.k256", Rows.laid_speakeasy_sha2_k256) :: rest) W) : KAt32 W := by
  rw [laid256_eq] at h
  have ht := Lib.tabIs_of_head g256 t256 Tryd.underlying56 Tryd.underlying40 cells40 cells56 h
  intro j hj
  have hl : K256.length = 64 := rfl
  rw [ht.cell g256 j (by simpa [hl] using hj)]
  simp only [List.getD_eq_getElem?_getD, List.getElem?_map, List.getElem?_eq_getElem (show j < K256.length by omega)]
  rfl
theorem tab64 {W : World} {rest : List (String × DataW Unit)} (h : laidMet Tryd.prog (("speakeasy/sha2.k512", Rows.laid_speakeasy_sha2_k512) :: rest) W) : KAt64 W := by
  rw [laid512_eq] at h
  have ht := Lib.tabIs_of_head g512 t512 Tryd.underlying61 Tryd.underlying46 cells46 cells61 h
  intro j hj
  have hl : K512.length = 80 := rfl
  rw [ht.cell g512 j (by simpa [hl] using hj)]
  simp only [List.getD_eq_getElem?_getD, List.getElem?_map, List.getElem?_eq_getElem (show j < K512.length by omega)]
  rfl

/-- Arguments read behind the call as before it, where the call only makes memory. -/
theorem trodAll_below {H : Type} {enc : TypeId × Value → H} {W W' : World} (hb : Below W.heap.size W W') : ∀ (ts : List TypeId), (∀ t ∈ ts, Tryd.prog.readableRec t = true ∧ t < Tryd.prog.types.size) → ∀ (vs : List Value) (ds : List (DataW H)) (ps : List MemPlace),
    DataW.TrodAll enc Tryd.prog W 0 (fun _ => true) true ts vs ds ps → (∀ x ∈ ps, x.block < W.heap.size) → DataW.TrodAll enc Tryd.prog W' 0 (fun b => decide (b < W.heap.size)) true ts vs ds ps
  | [], _, vs, ds, ps, h, _ => by
    obtain ⟨rfl, rfl, rfl⟩ := trodAll_nil h
    exact trodAll_mk0
  | t :: ts, ht, vs, ds, ps, h, hlt => by
    obtain ⟨v, vs', d, ds', p, q, rfl, rfl, rfl, h0, hr⟩ := trodAll_cons h
    exact trodAll_cons_mk (Below.trod laidOut (ht t (by simp)).1 (ht t (by simp)).2 h0 hb (fun x hx => hlt x (by simp [hx])))
      (trodAll_below hb ts (fun t' h' => ht t' (by simp [h'])) vs' ds' q hr (fun x hx => hlt x (by simp [hx])))
/-- The last step of a law: it returned true, and below the heap's size nothing has turned. -/
theorem law_post {H : Type} {enc : TypeId × Value → H} {f : Func} {s : ChangeSpec} {W W' : World} {args : Array Value} {ds : List (DataW H)} {before : List MemPlace}
    (hs : s.vars = []) (hW : DataW.Whole enc Tryd.prog f.params.toList s.vars false W args.toList ds [] before) (hr : f.resultTypes = #[4])
    (hfn : s.fn H (ds ++ []) = { results := [.lit (.bool true)], args := ds }) (hp : (f.params.toList.all fun t => Tryd.prog.readableRec t && decide (t < Tryd.prog.types.size)) = true) (hb : Below W.heap.size W W') :
    s.post enc Tryd.prog f false true false false W args (.bool true) W' := by
  have hW' := hW
  have hlt := hW.lt
  obtain ⟨p, q, hA, hV, rfl, hfz, hnd⟩ := hW
  have hV' : q = [] := by
    rw [hs] at hV
    obtain ⟨_, h⟩ := trodVars_none hV
    exact h
  subst hV'
  refine ⟨ds, [], _, [], p, [], hW', ?_, ?_, ?_, hb.frame _, fun h => by cases h⟩
  · rw [hfn, hr]
    exact trodAll_mk1 (shut_bool Tryd.underlying4 true)
  · rw [hfn]
    refine trodAll_below hb _ (fun t ht => ?_) _ _ _ hA (fun x hx => hlt x (by simp [hx]))
    have := List.all_eq_true.1 hp t ht
    simpa using this
  · rw [hfn, hs]; rfl
end Go.Proofs.YtghjndcbnnbloaaDoor
