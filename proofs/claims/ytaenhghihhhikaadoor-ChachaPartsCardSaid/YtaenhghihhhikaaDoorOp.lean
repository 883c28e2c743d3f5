/-
  Arrays of bytes and words as arguments, opened. Nothing of the program is named here.
-/
import Derived.Test.YtaenhghihhhikaaDoorXc
import Derived.WideKeyArr2
import Derived.ProofKit
import Derived.OpenShut
namespace Go.Proofs.YtaenhghihhhikaaDoor
open Go.ChangeShapes Go.WideShapes Go.ChangeAt Go.RowKit Go.WideMaps
section
variable {H : Type} {enc : TypeId × Value → H} {P : Program} {W : World} {base : Nat} {sp : Nat → Bool} {held : Bool}
theorem mapM_cells {e : TypeId} {q : IntKind} (he : P.underlying e = some (.int q)) {m : Nat} {cs : List Value} {c : Nat} : ∀ (L : List Nat) (xs : List (DataW H × List MemPlace)),
    L.mapM (fun i => DataW.trod enc P W base sp held m e ((cs.drop (i * c)).take c)) = some xs →
    xs.flatMap (·.2) = [] ∧ ∀ i ∈ L, ∃ a : Int, (cs.drop (i * c)).take c = [.int q a] ∧ (Lit.int q a).wf = true
  | [], xs, h => by
    simp at h
    subst h
    exact ⟨rfl, fun i hi => by cases hi⟩
  | i :: L, xs, h => by
    rw [List.mapM_cons] at h
    simp only [bind, Option.bind_eq_some_iff, pure, Option.some.injEq] at h
    obtain ⟨y, hy, ys, hys, rfl⟩ := h
    obtain ⟨h1, h2⟩ := mapM_cells he L ys hys
    obtain ⟨a, ea, rfl, wa⟩ := DataW.trod_int he hy
    refine ⟨by simpa using h1, fun j hj => ?_⟩
    rcases List.mem_cons.1 hj with rfl | hj
    · exact ⟨a, ea, wa⟩
    · exact h2 j hj
theorem wf_u8 {a : Int} (h : (Lit.int .u8 a).wf = true) : 0 ≤ a ∧ a < 256 := by
  simp [Lit.wf] at h
  have h1 : IntKind.u8.min = 0 := rfl
  have h2 : IntKind.u8.max = 255 := rfl
  omega
theorem u8_of (a : Int) (h : (Lit.int .u8 a).wf = true) : Value.int .u8 a = U8 (UInt8.ofNat a.toNat) := by
  have := wf_u8 h
  show Value.int .u8 a = Value.int .u8 (n8 _)
  rw [← lit_n8 _ (by omega)]; congr 1; omega
theorem u32_of {a : Int} (h : (Lit.int .u32 a).wf = true) : ∃ c : UInt32, a = n32 c := by
  simp [Lit.wf] at h
  have h1 : IntKind.u32.min = 0 := rfl
  have h2 : IntKind.u32.max = 4294967295 := rfl
  refine ⟨UInt32.ofNat a.toNat, ?_⟩
  rw [← lit_n32 _ (by omega)]; omega
theorem open_bytes {k e n : Nat} (hu : P.underlying k = some (.array n e)) (he : P.underlying e = some (.int .u8)) (hc : P.cellsOf e = 1) (hk : P.cellsOf k = n) {r : Reach} {b0 : Nat} {v : Value} (hval : Value.okWide P W r b0 k v) {d : DataW H} {ps : List MemPlace} (hd : DataW.Trod enc P W base sp held k v d ps) :
    ∃ L : List UInt8, L.length = n ∧ v = .agg (L.map U8).toArray ∧ ps = [] := by
  simp only [Value.okWide, hu] at hval
  obtain ⟨cs, rfl, h2, _⟩ := hval
  obtain ⟨fuel, hf⟩ := hd
  cases fuel with
  | zero => simp [DataW.trod] at hf
  | succ m =>
    rw [DataW.trod_step] at hf
    unfold DataW.trodStep at hf
    simp only [hu, Value.cells] at hf
    split at hf
    · rename_i hs
      simp only [Option.map_eq_some_iff] at hf
      obtain ⟨ys, hy, e1⟩ := hf
      obtain ⟨h3, h4⟩ := mapM_cells he _ ys hy
      rw [hk] at h2
      rw [hc] at h4
      have hcell : ∀ i, i < n → ∃ u : UInt8, cs[i]? = some (U8 u) := fun i hi => by
        obtain ⟨a, ha, hw⟩ := h4 i (List.mem_range.2 hi)
        refine ⟨UInt8.ofNat a.toNat, ?_⟩
        rw [← u8_of a hw]
        have := congrArg (fun l => l[0]?) ha
        simp only [Nat.mul_one, List.getElem?_take, List.getElem?_drop, Nat.add_zero, Nat.lt_one_iff, if_true, List.getElem?_cons_zero] at this
        simpa using this
      refine ⟨(List.range n).map fun i => UInt8.ofNat (intOf (cs.getD i undef)).toNat, by simp, ?_, by rw [← h3]; exact (congrArg Prod.snd e1).symm⟩
      congr 1
      apply Array.ext_getElem?
      intro i
      by_cases hi : i < n
      · obtain ⟨u, hu'⟩ := hcell i hi
        have hg : cs.getD i undef = U8 u := by rw [Array.getD_eq_getD_getElem?, hu']; rfl
        rw [hu']
        simp only [List.getElem?_toArray, List.getElem?_map, List.getElem?_range hi, Option.map_some, hg]
        have hu2 : UInt8.ofNat (intOf (U8 u)).toNat = u := by
          show UInt8.ofNat (n8 u).toNat = u
          unfold n8; simp
        rw [hu2]
      · rw [Array.getElem?_eq_none (by omega), Array.getElem?_eq_none (by simp; omega)]
    · cases hf
end
end Go.Proofs.YtaenhghihhhikaaDoor
