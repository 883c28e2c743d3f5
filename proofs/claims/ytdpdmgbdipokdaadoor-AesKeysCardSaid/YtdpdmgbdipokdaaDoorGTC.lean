/-
  Texts of this claim.
-/
import Derived.WideKeyArr2
import Derived.ProofKit
import Derived.OpenShut
import Derived.Test.YtdpdmgbdipokdaaDoorCards
import Derived.Test.YtdpdmgbdipokdaaDoorTie
import Derived.LaidMore
import Derived.Deep.DeepHandedRow
import Derived.Lib.LaidTab
import Derived.Test.YtdpdmgbdipokdaaDoorGTA
namespace Go.Proofs.YtdpdmgbdipokdaaDoor
open Go.ChangeShapes Go.WideShapes Go.ChangeAt Go.RowKit Go.WideMaps
section
variable {H : Type} {enc : TypeId × Value → H} {P : Program} {W : World} {base : Nat} {sp : Nat → Bool} {held : Bool}
theorem mapM_cells {e : TypeId} {q : IntKind} (he : P.underlying e = some (.int q)) {m : Nat} {cs : List Value} {c : Nat} : ∀ (L : List Nat) (xs : List (DataW H × List MemPlace)),
    L.mapM (fun i => DataW.trod enc P W base sp held m e ((cs.drop (i * c)).take c)) = some xs →
    xs.flatMap (·.2) = [] ∧ ∀ i ∈ L, ∃ a : Int, (cs.drop (i * c)).take c = [.int q a] ∧ (Lit.int q a).wf = true
  | [], xs, h => by
    simp at h
    subst h
    exact ⟨rfl, fun i hi => by cases hi⟩
  | i :: L, xs, h => by
    rw [List.mapM_cons] at h
    simp only [bind, Option.bind_eq_some_iff, pure, Option.some.injEq] at h
    obtain ⟨y, hy, ys, hys, rfl⟩ := h
    obtain ⟨h1, h2⟩ := mapM_cells he L ys hys
    obtain ⟨a, ea, rfl, wa⟩ := DataW.trod_int he hy
    refine ⟨by simpa using h1, fun j hj => ?_⟩
    rcases List.mem_cons.1 hj with rfl | hj
    · exact ⟨a, ea, wa⟩
    · exact h2 j hj
theorem wf_u8 {a : Int} (h : (Lit.int .u8 a).wf = true) : 0 ≤ a ∧ a < 256 := by
  simp [Lit.wf] at h
  have h1 : IntKind.u8.min = 0 := rfl
  have h2 : IntKind.u8.max = 255 := rfl
  omega
theorem u8_of (a : Int) (h : (Lit.int .u8 a).wf = true) : Value.int .u8 a = U8 (UInt8.ofNat a.toNat) := by
  have := wf_u8 h
  show Value.int .u8 a = Value.int .u8 (n8 _)
  rw [← lit_n8 _ (by omega)]; congr 1; omega
theorem u32_of {a : Int} (h : (Lit.int .u32 a).wf = true) : ∃ c : UInt32, a = n32 c := by
  simp [Lit.wf] at h
  have h1 : IntKind.u32.min = 0 := rfl
  have h2 : IntKind.u32.max = 4294967295 := rfl
  refine ⟨UInt32.ofNat a.toNat, ?_⟩
  rw [← lit_n32 _ (by omega)]; omega
theorem open_bytes {k e n : Nat} (hu : P.underlying k = some (.array n e)) (he : P.underlying e = some (.int .u8)) (hc : P.cellsOf e = 1) (hk : P.cellsOf k = n) {r : Reach} {b0 : Nat} {v : Value} (hval : Value.okWide P W r b0 k v) {d : DataW H} {ps : List MemPlace} (hd : DataW.Trod enc P W base sp held k v d ps) :
    ∃ L : List UInt8, L.length = n ∧ v = .agg (L.map U8).toArray ∧ ps = [] := by
  simp only [Value.okWide, hu] at hval
  obtain ⟨cs, rfl, h2, _⟩ := hval
  obtain ⟨fuel, hf⟩ := hd
  cases fuel with
  | zero => simp [DataW.trod] at hf
  | succ m =>
    rw [DataW.trod_step] at hf
    unfold DataW.trodStep at hf
    simp only [hu, Value.cells] at hf
    split at hf
    · rename_i hs
      simp only [Option.map_eq_some_iff] at hf
      obtain ⟨ys, hy, e1⟩ := hf
      obtain ⟨h3, h4⟩ := mapM_cells he _ ys hy
      rw [hk] at h2
      rw [hc] at h4
      have hcell : ∀ i, i < n → ∃ u : UInt8, cs[i]? = some (U8 u) := fun i hi => by
        obtain ⟨a, ha, hw⟩ := h4 i (List.mem_range.2 hi)
        refine ⟨UInt8.ofNat a.toNat, ?_⟩
        rw [← u8_of a hw]
        have := congrArg (fun l => l[0]?) ha
        simp only [Nat.mul_one, List.getElem?_take, List.getElem?_drop, Nat.add_zero, Nat.lt_one_iff, if_true, List.getElem?_cons_zero] at this
        simpa using this
      refine ⟨(List.range n).map fun i => UInt8.ofNat (intOf (cs.getD i undef)).toNat, by simp, ?_, by rw [← h3]; exact (congrArg Prod.snd e1).symm⟩
      congr 1
      apply Array.ext_getElem?
      intro i
      by_cases hi : i < n
      · obtain ⟨u, hu'⟩ := hcell i hi
        have hg : cs.getD i undef = U8 u := by rw [Array.getD_eq_getD_getElem?, hu']; rfl
        rw [hu']
        simp only [List.getElem?_toArray, List.getElem?_map, List.getElem?_range hi, Option.map_some, hg]
        have hu2 : UInt8.ofNat (intOf (U8 u)).toNat = u := by
          show UInt8.ofNat (n8 u).toNat = u
          unfold n8; simp
        rw [hu2]
      · rw [Array.getElem?_eq_none (by omega), Array.getElem?_eq_none (by simp; omega)]
    · cases hf
end
end Go.Proofs.YtdpdmgbdipokdaaDoor
namespace Go.Proofs.YtdpdmgbdipokdaaDoor
open Go.ChangeShapes Go.WideShapes Go.ChangeAt Go.RowKit

theorem own : ownKnob Tryd.prog.godebug = none := by kernel_rfl
theorem laidOut : laidOutB Tryd.prog = true := by kernel_rfl
theorem laidMet_tail {P : Program} {x : String × DataW Unit} {r : List (String × DataW Unit)} {w : World} (h : laidMet P (x :: r) w) : laidMet P r w := by
  obtain ⟨ps, hv, hnd, hrows⟩ := h
  obtain ⟨n, d⟩ := x
  obtain ⟨g, t, cs, fuel, p, q, _, _, _, _, hq, rfl⟩ := hv
  exact ⟨q, hq, List.Nodup.sublist (List.sublist_append_right _ _) hnd, fun b off hm => hrows b off (List.mem_append_right _ hm)⟩
/-- Arguments read behind the call as before it, where the call only makes memory. -/
theorem trodAll_below {H : Type} {enc : TypeId × Value → H} {W W' : World} (hb : Below W.heap.size W W') : ∀ (ts : List TypeId), (∀ t ∈ ts, Tryd.prog.readableRec t = true ∧ t < Tryd.prog.types.size) → ∀ (vs : List Value) (ds : List (DataW H)) (ps : List MemPlace),
    DataW.TrodAll enc Tryd.prog W 0 (fun _ => true) true ts vs ds ps → (∀ x ∈ ps, x.block < W.heap.size) → DataW.TrodAll enc Tryd.prog W' 0 (fun b => decide (b < W.heap.size)) true ts vs ds ps
  | [], _, vs, ds, ps, h, _ => by
    obtain ⟨rfl, rfl, rfl⟩ := trodAll_nil h
    exact trodAll_mk0
  | t :: ts, ht, vs, ds, ps, h, hlt => by
    obtain ⟨v, vs', d, ds', p, q, rfl, rfl, rfl, h0, hr⟩ := trodAll_cons h
    exact trodAll_cons_mk (Below.trod laidOut (ht t (by simp)).1 (ht t (by simp)).2 h0 hb (fun x hx => hlt x (by simp [hx])))
      (trodAll_below hb ts (fun t' h' => ht t' (by simp [h'])) vs' ds' q hr (fun x hx => hlt x (by simp [hx])))
/-- The last step of a law: it returned true, and below the heap's size nothing has turned. -/
theorem law_post {H : Type} {enc : TypeId × Value → H} {f : Func} {s : ChangeSpec} {W W' : World} {args : Array Value} {ds : List (DataW H)} {before : List MemPlace}
    (hs : s.vars = []) (hW : DataW.Whole enc Tryd.prog f.params.toList s.vars false W args.toList ds [] before) (hr : f.resultTypes = #[4])
    (hfn : s.fn H (ds ++ []) = { results := [.lit (.bool true)], args := ds }) (hp : (f.params.toList.all fun t => Tryd.prog.readableRec t && decide (t < Tryd.prog.types.size)) = true) (hb : Below W.heap.size W W') :
    s.post enc Tryd.prog f false true false false W args (.bool true) W' := by
  have hW' := hW
  have hlt := hW.lt
  obtain ⟨p, q, hA, hV, rfl, hfz, hnd⟩ := hW
  have hV' : q = [] := by
    rw [hs] at hV
    obtain ⟨_, h⟩ := trodVars_none hV
    exact h
  subst hV'
  refine ⟨ds, [], _, [], p, [], hW', ?_, ?_, ?_, hb.frame _, fun h => by cases h⟩
  · rw [hfn, hr]
    exact trodAll_mk1 (shut_bool Tryd.underlying4 true)
  · rw [hfn]
    refine trodAll_below hb _ (fun t ht => ?_) _ _ _ hA (fun x hx => hlt x (by simp [hx]))
    have := List.all_eq_true.1 hp t ht
    simpa using this
  · rw [hfn, hs]; rfl
end Go.Proofs.YtdpdmgbdipokdaaDoor
