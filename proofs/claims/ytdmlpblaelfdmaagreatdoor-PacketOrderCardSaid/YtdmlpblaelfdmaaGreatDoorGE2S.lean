/-
  Texts of this claim.
-/
import Derived.Laws.Build
import Derived.OwnWalk
import Derived.Test.YtdmlpblaelfdmaaGreatDoorGES
namespace Go.Proofs.YtdmlpblaelfdmaaGreatDoor
open Go.RowKit
/-- What is not known, then the cells. -/
def offC (o : Nat) (cs : List AV) : List AV := List.replicate o .hole ++ cs
/-- A cell that names no block. -/
def AV.flatV : AV → Bool
  | .u8 _ | .u32 _ | .u64 _ | .i64 _ | .bool _ | .str _ | .hole => true
  | _ => false
theorem flat_ren {x : AV} (h : x.flatV = true) (f : Nat → Nat) : x.ren f = x := by cases x <;> first | rfl | cases h
theorem flat_names {x : AV} (h : x.flatV = true) : x.names = [] := by cases x <;> first | rfl | cases h
theorem offC_len (o : Nat) (cs : List AV) : (AV.agg (offC o cs)).len = o + cs.length := by
  show (offC o cs).length = _
  unfold offC
  rw [List.length_append, List.length_replicate]
theorem offC_nth {o i : Nat} {cs : List AV} {v : AV} (h : cs[i]? = some v) : (AV.agg (offC o cs)).nth (o + i) = some v := by
  show (offC o cs)[o + i]? = _
  unfold offC
  rw [List.getElem?_append_right (by rw [List.length_replicate]; omega), List.length_replicate, show o + i - o = i by omega, h]
theorem offC_flat {o : Nat} {cs : List AV} (h : cs.all AV.flatV = true) : (offC o cs).all AV.flatV = true := by
  unfold offC
  rw [List.all_append, h, Bool.and_true]
  exact List.all_eq_true.2 fun x hx => by rw [List.eq_of_mem_replicate hx]; rfl
theorem flat_list {l : List AV} (h : l.all AV.flatV = true) : (∀ f, AV.renL f l = l) ∧ AV.namesL l = [] := by
  induction l with
  | nil => exact ⟨fun _ => rfl, rfl⟩
  | cons x l ih =>
    rw [List.all_cons, Bool.and_eq_true] at h
    obtain ⟨h1, h2⟩ := ih h.2
    exact ⟨fun f => by show x.ren f :: AV.renL f l = _; rw [h1 f, flat_ren h.1], by show x.names ++ AV.namesL l = _; rw [h2, flat_names h.1]; rfl⟩
theorem offC_ren (f : Nat → Nat) (o : Nat) {cs : List AV} (h : cs.all AV.flatV = true) : (AV.agg (offC o cs)).ren f = AV.agg (offC o cs) := by
  show AV.agg (AV.renL f (offC o cs)) = _
  rw [(flat_list (offC_flat h)).1 f]
theorem offC_nm (L : List (Nat × Nat)) (o : Nat) {cs : List AV} (h : cs.all AV.flatV = true) : nmOk L (AV.agg (offC o cs)).names = true := by
  show nmOk L (AV.namesL (offC o cs)) = true
  rw [(flat_list (offC_flat h)).2]; rfl
/-- Rows of the elements of a list, one behind the other. -/
def rowsC {α : Type} (f : α → List AV) (l : List α) : List AV := l.flatMap f
section
variable {α : Type} {f : α → List AV} {z : Nat}
theorem rowsC_len (hz : ∀ a, (f a).length = z) (l : List α) : (rowsC f l).length = l.length * z := by
  induction l with
  | nil => simp [rowsC]
  | cons a l ih =>
    show (f a ++ rowsC f l).length = _
    rw [List.length_append, hz, ih, List.length_cons, Nat.add_mul]; omega
theorem rowsC_nth (hz : ∀ a, (f a).length = z) {l : List α} {i : Nat} {a : α} (hi : l[i]? = some a) {k : Nat} (hk : k < z) : (rowsC f l)[i * z + k]? = (f a)[k]? := by
  induction l generalizing i with
  | nil => simp at hi
  | cons b l ih =>
    show (f b ++ rowsC f l)[i * z + k]? = _
    cases i with
    | zero =>
      simp only [List.getElem?_cons_zero, Option.some.injEq] at hi
      subst hi
      rw [List.getElem?_append_left (by rw [hz]; omega), Nat.zero_mul, Nat.zero_add]
    | succ i =>
      rw [List.getElem?_cons_succ] at hi
      rw [List.getElem?_append_right (by rw [hz, Nat.add_mul]; omega), hz, show (i + 1) * z + k - z = i * z + k by rw [Nat.add_mul]; omega]
      exact ih hi
end
theorem get_i {α : Type} {l : List α} {i : Nat} (d : α) (h : i < l.length) : l[i]? = some (l.getD i d) := by
  rw [List.getD_eq_getElem?_getD, List.getElem?_eq_getElem h]; rfl
end Go.Proofs.YtdmlpblaelfdmaaGreatDoor
namespace Go.Proofs.YtdmlpblaelfdmaaGreatDoor
open Go.RowKit
section
variable {P : Program} {T : Nat → Option AV} {H : Hp} {nm : Nat} {wr : Bool} {d : Option Tmp} {ty t : TypeId} {ps : String} {af : Array Edge} {gd : Option (Nat × Bool)} {x y : Operand}
/-- The lowest bits of an integer. -/
theorem op_maskP {j : Int} {t' : TypeId} (k : Nat) (hk : k ≤ 32) (hx : aev T x = some (.i64 j)) (hy : aev T y = some (.i64 ((2 ^ k - 1 : Nat) : Int))) : OpSem P T H ⟨d, .binOp .and t x y t', ty, ps, af, gd⟩ nm wr (.i64 (j % ((2 ^ k : Nat) : Int))) [] :=
  op_bin hx hy fun E y1 y2 w h1 h2 => by
    rw [h1.i64_inv, h2.i64_inv]
    have hp : 2 ^ k ≤ 2 ^ 32 := Nat.pow_le_pow_right (by decide) hk
    have hp0 : 0 < 2 ^ k := Nat.pow_pos (by decide)
    refine ⟨.int .i64 (IntKind.i64.wrap ((BitVec.ofInt 64 j &&& BitVec.ofInt 64 ((2 ^ k - 1 : Nat) : Int)).toNat : Int)), rfl, ?_⟩
    have e : (BitVec.ofInt 64 j &&& BitVec.ofInt 64 ((2 ^ k - 1 : Nat) : Int)).toNat = (j % ((2 ^ k : Nat) : Int)).toNat := by
      rw [BitVec.toNat_and, BitVec.toNat_ofInt, BitVec.toNat_ofInt]
      rw [show (((2 ^ k - 1 : Nat) : Int) % ((2 ^ 64 : Nat) : Int)).toNat = 2 ^ k - 1 by omega, Nat.and_two_pow_sub_one_eq_mod]
      have hd : ((2 ^ k : Nat) : Int) ∣ ((2 ^ 64 : Nat) : Int) := Int.natCast_dvd_natCast.2 (Nat.pow_dvd_pow 2 (by omega))
      have h0 : 0 ≤ j % ((2 ^ 64 : Nat) : Int) := Int.emod_nonneg _ (by decide)
      have h3 : (((j % ((2 ^ 64 : Nat) : Int)).toNat % 2 ^ k : Nat) : Int) = j % ((2 ^ k : Nat) : Int) := by
        rw [Int.natCast_emod, Int.toNat_of_nonneg h0, Int.emod_emod_of_dvd _ hd]
      omega
    have hb0 : 0 ≤ j % ((2 ^ k : Nat) : Int) := Int.emod_nonneg _ (by omega)
    have hb1 : j % ((2 ^ k : Nat) : Int) < ((2 ^ k : Nat) : Int) := Int.emod_lt_of_pos _ (by omega)
    rw [e, Int.toNat_of_nonneg hb0, wrap_in ⟨by omega, by omega⟩]
    exact .i64 _
end
end Go.Proofs.YtdmlpblaelfdmaaGreatDoor
namespace Go.Proofs.YtdmlpblaelfdmaaGreatDoor
open Go.RowKit
theorem op_makeIface {P : Program} {T : Nat → Option AV} {H : Hp} {nm : Nat} {wr : Bool} {d : Option Tmp} {ty t : TypeId} {ps : String} {af : Array Edge} {gd : Option (Nat × Bool)} {x : Operand} {u : AV} (hc : P.concrete t = true) (hx : aev T x = some u) :
    OpSem P T H ⟨d, .makeInterface t x, ty, ps, af, gd⟩ nm wr (.ifc t u) [] :=
  .quiet fun E a w h => ⟨.iface t (a.eval x), by simp [execOp, run_makeInterface _ _ _ hc], .ifc _ _ _ (h x mem1 _ hx)⟩
theorem results_tmp4 {fn : Func} {t u v q : Tmp} (h : fn.results = #[.tmp t, .tmp u, .tmp v, .tmp q]) (tmps : Array Value) (P : Program) (w : World) :
    (results fn tmps).run P w = .ok (.tuple #[tmps.getD t undef, tmps.getD u undef, tmps.getD v undef, tmps.getD q undef]) w := by
  simp [results, h]
theorem ret4v {P : Program} {nt : Nat} {st : St} {fn : Func} {t u q p : Tmp} {v1 v2 v3 v4 v1' v2' v3' v4' : AV} {H1 : List (Nat × Option ABlk)} {e : Exit} (hr : fn.results = #[.tmp t, .tmp u, .tmp q, .tmp p]) (he : e = .ret ∨ e = .normal) (hv : lk st.T t = some v1') (hu : lk st.T u = some v2') (hq : lk st.T q = some v3') (hp : lk st.T p = some v4') (h1 : v1' = v1) (h2 : v2' = v2) (h3 : v3' = v3) (h4 : v4' = v4) (hH : HSub (hget st.H) H1) : RetOk P fn nt (.tup [v1, v2, v3, v4]) H1 e st := by
  subst h1; subst h2; subst h3; subst h4
  exact ⟨he, hH.spec, fun _ _ _ a w hR => ⟨_, results_tmp4 hr a.tmps P w, .tup _ _ rfl fun i x y hx hy => by
    match i, hx, hy with
    | 0, hx, hy => simp at hx hy; subst hx; subst hy; have := hR.rt t v1' hv; simpa using this
    | 1, hx, hy => simp at hx hy; subst hx; subst hy; have := hR.rt u v2' hu; simpa using this
    | 2, hx, hy => simp at hx hy; subst hx; subst hy; have := hR.rt q v3' hq; simpa using this
    | 3, hx, hy => simp at hx hy; subst hx; subst hy; have := hR.rt p v4' hp; simpa using this
    | i + 4, hx, _ => simp at hx⟩⟩
end Go.Proofs.YtdmlpblaelfdmaaGreatDoor
