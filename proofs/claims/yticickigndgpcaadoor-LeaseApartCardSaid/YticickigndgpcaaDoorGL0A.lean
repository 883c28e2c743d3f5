/-
  Texts of this claim.
-/
import Derived.Test.YticickigndgpcaaDoorGP2A
import Derived.Test.YticickigndgpcaaDoorGP1A
namespace Go.Proofs.YticickigndgpcaaDoor
open Go.RowKit
structure Ls where
  t : List UInt8
  a : List UInt8
  o : Int
  e : Int
  l : Int
  deriving DecidableEq, Inhabited
def Ls.cs (x : Ls) : List AV := [.str x.t, .str x.a, .i64 x.o, .i64 x.e, .i64 x.l]
def lsV (x : Ls) : AV := .agg x.cs
def Ls.vs (x : Ls) : List Value := [.string ⟨x.t.toArray⟩, .string ⟨x.a.toArray⟩, .int .i64 x.o, .int .i64 x.e, .int .i64 x.l]
def lsW (x : Ls) : Value := .agg x.vs.toArray
def lsC : List Ls → List AV
  | [] => []
  | x :: r => x.cs ++ lsC r
theorem lsC_app (l m : List Ls) : lsC (l ++ m) = lsC l ++ lsC m := by
  induction l with
  | nil => rfl
  | cons x r ih => show x.cs ++ lsC (r ++ m) = (x.cs ++ lsC r) ++ lsC m; rw [ih, List.append_assoc]
theorem lsC_len (l : List Ls) : (lsC l).length = l.length * 5 := by
  induction l with
  | nil => rfl
  | cons x r ih => show (x.cs ++ lsC r).length = _; rw [List.length_append, ih]; show 5 + _ = (r.length + 1) * 5; omega
theorem lsC_still (l : List Ls) : ∀ x ∈ lsC l, x.still = true := by
  induction l with
  | nil => intro x h; cases h
  | cons y r ih =>
    intro x h
    rcases List.mem_append.1 h with h | h
    · simp only [Ls.cs, List.mem_cons, List.not_mem_nil, or_false] at h; rcases h with rfl | rfl | rfl | rfl | rfl <;> rfl
    · exact ih x h
theorem lsC_one (l : List Ls) : (lsC l).all AV.one = true := by
  induction l with
  | nil => rfl
  | cons y r ih => show (y.cs ++ lsC r).all AV.one = true; rw [List.all_append, ih]; rfl
theorem lsC_drop {l : List Ls} {i : Nat} (h : i < l.length) : (lsC l).drop (i * 5) = (l.getD i default).cs ++ lsC (l.drop (i + 1)) := by
  induction l generalizing i with
  | nil => simp at h
  | cons x r ih =>
    cases i with
    | zero => rfl
    | succ i =>
      show (x.cs ++ lsC r).drop ((i + 1) * 5) = _
      rw [List.drop_append, List.drop_eq_nil_of_le (show x.cs.length ≤ (i + 1) * 5 by show 5 ≤ _; omega), show (i + 1) * 5 - x.cs.length = i * 5 by show (i + 1) * 5 - 5 = _; omega, ih (by simpa using h)]
      rfl
theorem lsC_ren (f : Nat → Nat) (l : List Ls) : (AV.agg (lsC l)).ren f = .agg (lsC l) := by
  have : ∀ l : List Ls, AV.renL f (lsC l) = lsC l := by
    intro l
    induction l with
    | nil => rfl
    | cons x r ih => show AV.renL f (x.cs ++ lsC r) = _; simp only [Ls.cs, lsC, List.cons_append, List.nil_append, AV.renL, AV.ren, ih]
  show AV.agg (AV.renL f (lsC l)) = _
  rw [this]
theorem lsC_nmE (l : List Ls) : (AV.agg (lsC l)).names = [] := by
  have : ∀ l : List Ls, AV.namesL (lsC l) = [] := by
    intro l
    induction l with
    | nil => rfl
    | cons x r ih => show AV.namesL (x.cs ++ lsC r) = _; simp only [Ls.cs, List.cons_append, List.nil_append, AV.namesL, AV.names, ih]
  exact this l
theorem lsC_nm (L : List (Nat × Nat)) (l : List Ls) : nmOk L (AV.agg (lsC l)).names = true := by rw [lsC_nmE]; rfl
theorem lsC_nmC (L : List (Nat × Nat)) (l : List Ls) : nmOkC L (AV.agg (lsC l)).names = true := by rw [lsC_nmE]; rfl
theorem lsC_nmF (L N : List (Nat × Nat)) (l : List Ls) : nmOkF L N (AV.agg (lsC l)).names = true := by rw [lsC_nmE]; rfl
theorem lsC_blk (f : Nat → Nat) (l : List Ls) (e : Nat) (o : Bool) : (⟨.agg (lsC l), e, o⟩ : ABlk) = ⟨(⟨.agg (lsC l), e, o⟩ : ABlk).c.ren f, (⟨.agg (lsC l), e, o⟩ : ABlk).elem, (⟨.agg (lsC l), e, o⟩ : ABlk).own⟩ := by
  show _ = (⟨(AV.agg (lsC l)).ren f, e, o⟩ : ABlk)
  rw [lsC_ren]
def cmpS (s t : List UInt8) : Int := if s < t then -1 else if t < s then 1 else 0
def cmpL (x y : Ls) : Int := if cmpS x.t y.t ≠ 0 then cmpS x.t y.t else cmpS x.a y.a
def kLt (x y : Ls) : Prop := x.t < y.t ∨ (x.t = y.t ∧ x.a < y.a)
instance (x y : Ls) : Decidable (kLt x y) := by unfold kLt; infer_instance
def kEq (x y : Ls) : Prop := x.t = y.t ∧ x.a = y.a
instance (x y : Ls) : Decidable (kEq x y) := by unfold kEq; infer_instance
theorem sLt_irrefl (s : List UInt8) : ¬ s < s := List.lt_irrefl s
theorem sLt_trans {s t u : List UInt8} (h : s < t) (k : t < u) : s < u := List.lt_trans h k
theorem sLt_asymm {s t : List UInt8} (h : s < t) : ¬ t < s := fun k => sLt_irrefl _ (sLt_trans h k)
theorem sLt_tri (s t : List UInt8) : s < t ∨ s = t ∨ t < s := by
  by_cases h1 : s < t
  · exact .inl h1
  by_cases h2 : t < s
  · exact .inr (.inr h2)
  · exact .inr (.inl (List.le_antisymm (List.not_lt.1 h2) (List.not_lt.1 h1)))
theorem cmpS_zero {s t : List UInt8} : cmpS s t = 0 ↔ s = t := by
  unfold cmpS
  rcases sLt_tri s t with h | h | h
  · simp only [h, if_true]; exact ⟨fun h => by omega, fun e => by rw [e] at h; exact absurd h (sLt_irrefl _)⟩
  · subst h; simp [sLt_irrefl]
  · simp only [sLt_asymm h, h, if_true, if_false]; exact ⟨fun h => by omega, fun e => by rw [e] at h; exact absurd h (sLt_irrefl _)⟩
theorem cmpS_neg {s t : List UInt8} : cmpS s t < 0 ↔ s < t := by
  unfold cmpS
  by_cases h : s < t
  · simp [h]
  · by_cases k : t < s <;> simp [h, k]
theorem cmpL_neg {x y : Ls} : cmpL x y < 0 ↔ kLt x y := by
  unfold cmpL kLt
  by_cases h : x.t = y.t
  · rw [if_neg (by rw [Ne, Decidable.not_not]; exact cmpS_zero.2 h), cmpS_neg]
    exact ⟨fun k => .inr ⟨h, k⟩, fun k => by rcases k with k | k; · rw [h] at k; exact absurd k (sLt_irrefl _)
                                             · exact k.2⟩
  · rw [if_pos (fun k => h (cmpS_zero.1 k)), cmpS_neg]
    exact ⟨.inl, fun k => k.elim id fun k => absurd k.1 h⟩
theorem kLt_irrefl (x : Ls) : ¬ kLt x x := fun h => h.elim (sLt_irrefl _) fun h => sLt_irrefl _ h.2
theorem kLt_trans {x y z : Ls} (h : kLt x y) (k : kLt y z) : kLt x z := by
  rcases h with h | ⟨h1, h2⟩ <;> rcases k with k | ⟨k1, k2⟩
  · exact .inl (sLt_trans h k)
  · exact .inl (by rw [← k1]; exact h)
  · exact .inl (by rw [h1]; exact k)
  · exact .inr ⟨h1.trans k1, sLt_trans h2 k2⟩
theorem kLt_tri (x y : Ls) : kLt x y ∨ kEq x y ∨ kLt y x := by
  rcases sLt_tri x.t y.t with h | h | h
  · exact .inl (.inl h)
  · rcases sLt_tri x.a y.a with k | k | k
    · exact .inl (.inr ⟨h, k⟩)
    · exact .inr (.inl ⟨h, k⟩)
    · exact .inr (.inr (.inr ⟨h.symm, k⟩))
  · exact .inr (.inr (.inl h))
theorem kLt_ne {x y : Ls} (h : kLt x y) : ¬ kEq x y := fun e => by
  rcases h with h | ⟨_, h⟩
  · rw [e.1] at h; exact sLt_irrefl _ h
  · rw [e.2] at h; exact sLt_irrefl _ h
def Asc (l : List Ls) : Prop := l.Pairwise kLt
theorem Asc.filter {l : List Ls} (h : Asc l) (p : Ls → Bool) : Asc (l.filter p) := List.Pairwise.filter p h
theorem Asc.unique {l m : List Ls} (h : Asc l) (k : m.Pairwise fun x y => ¬ kLt y x) (p : m.Perm l) : m = l := by
  have hu : ∀ x ∈ l, ∀ y ∈ l, kEq x y → x = y := by
    intro x hx y hy e
    have : ∀ l : List Ls, Asc l → x ∈ l → y ∈ l → x = y := by
      intro l h hx hy
      induction l with
      | nil => cases hx
      | cons z r ih =>
        obtain ⟨h1, h2⟩ := List.pairwise_cons.1 h
        rcases List.mem_cons.1 hx with q1 | q1 <;> rcases List.mem_cons.1 hy with q2 | q2
        · rw [q1, q2]
        · rw [q1] at e; exact absurd e (kLt_ne (h1 y q2))
        · rw [q2] at e; exact absurd ⟨e.1.symm, e.2.symm⟩ (kLt_ne (h1 x q1))
        · exact ih h2 q1 q2
    exact this l h hx hy
  refine List.Perm.eq_of_pairwise (le := fun x y => ¬ kLt y x) (fun a b ha hb h1 h2 => ?_) k (h.imp fun {a b} hab hba => kLt_irrefl _ (kLt_trans hab hba)) p
  have ha' : a ∈ l := p.mem_iff.1 ha
  rcases kLt_tri a b with q | q | q
  · exact absurd q h2
  · exact hu a ha' b hb q
  · exact absurd q h1
end Go.Proofs.YticickigndgpcaaDoor
namespace Go.Proofs.YticickigndgpcaaDoor
open Go.RowKit
def nmK (t a : List UInt8) : Value := .agg #[.string ⟨t.toArray⟩, .string ⟨a.toArray⟩]
theorem nmK_inj {t a t' a' : List UInt8} (h : nmK t a = nmK t' a') : t = t' ∧ a = a' := by
  simp only [nmK, Value.agg.injEq, Array.mk.injEq, List.cons.injEq, Value.string.injEq, ByteArray.mk.injEq, and_true] at h
  exact ⟨by simpa using h.1, by simpa using h.2⟩
def mpV (M : List (Ls × Nat)) (ck : Nat) : AV := .mapv (M.map fun p => (nmK p.1.t p.1.a, lsW p.1, p.2)) ck
def mKs (M : List (Ls × Nat)) : List Value := M.map fun p => nmK p.1.t p.1.a
def mVs (M : List (Ls × Nat)) : List AV := M.map fun p => .val (lsW p.1)
def mBs (M : List (Ls × Nat)) : List Nat := M.map (·.2)
theorem mpV_ents (M : List (Ls × Nat)) (ck : Nat) : (mpV M ck).ents = some (mKs M, mVs M, mBs M, ck) := by
  simp only [mpV, AV.ents, List.map_map]; rfl
structure MI (M : List (Ls × Nat)) (ck : Nat) (L : List Ls) : Prop where
  perm : (M.map (·.1)).Perm L
  asc : Asc L
  bnd : (mBs M).Nodup
  blt : ∀ n ∈ mBs M, n < ck
  sz : ∀ x ∈ L, x.t.length ≤ 63 ∧ x.a.length ≤ 63
  len : L.length ≤ 4096
variable {M : List (Ls × Nat)} {ck : Nat} {L : List Ls}
theorem MI.size (h : MI M ck L) : M.length = L.length := by have := h.perm.length_eq; rwa [List.length_map] at this
theorem MI.mem (h : MI M ck L) {i : Nat} {p : Ls × Nat} (hp : M[i]? = some p) : p.1 ∈ L := h.perm.mem_iff.1 (List.mem_map.2 ⟨p, List.mem_of_getElem? hp, rfl⟩)
theorem Asc.ne {l : List Ls} (h : Asc l) : l.Pairwise fun x y => ¬ kEq x y := h.imp kLt_ne
theorem kEq_symm {x y : Ls} (h : kEq x y) : kEq y x := ⟨h.1.symm, h.2.symm⟩
theorem kEq_trans {x y z : Ls} (h : kEq x y) (k : kEq y z) : kEq x z := ⟨h.1.trans k.1, h.2.trans k.2⟩
theorem Asc.same {l : List Ls} (h : Asc l) {x y : Ls} (hx : x ∈ l) (hy : y ∈ l) (e : kEq x y) : x = y := by
  induction l with
  | nil => cases hx
  | cons z r ih =>
    obtain ⟨h1, h2⟩ := List.pairwise_cons.1 h
    rcases List.mem_cons.1 hx with q1 | q1 <;> rcases List.mem_cons.1 hy with q2 | q2
    · rw [q1, q2]
    · rw [q1] at e; exact absurd e (kLt_ne (h1 y q2))
    · rw [q2] at e; exact absurd (kEq_symm e) (kLt_ne (h1 x q1))
    · exact ih h2 q1 q2
theorem MI.ne (h : MI M ck L) : (M.map (·.1)).Pairwise fun x y => ¬ kEq x y :=
  (h.perm.pairwise_iff (R := fun x y => ¬ kEq x y) (fun hxy hyx => hxy (kEq_symm hyx))).2 h.asc.ne
theorem MI.uniq (h : MI M ck L) {i j : Nat} {p q : Ls × Nat} (hp : M[i]? = some p) (hq : M[j]? = some q) (e : kEq p.1 q.1) : i = j := by
  have hh := h.ne
  rw [List.pairwise_iff_getElem] at hh
  obtain ⟨hi, hi'⟩ := List.getElem?_eq_some_iff.1 hp
  obtain ⟨hj, hj'⟩ := List.getElem?_eq_some_iff.1 hq
  rcases Nat.lt_trichotomy i j with k | k | k
  · exact absurd (by rw [List.getElem_map, List.getElem_map, hi', hj']; exact e) (hh i j (by simpa using hi) (by simpa using hj) k)
  · exact k
  · exact absurd (by rw [List.getElem_map, List.getElem_map, hi', hj']; exact kEq_symm e) (hh j i (by simpa using hj) (by simpa using hi) k)
theorem mKs_at {j : Nat} {t a : List UInt8} (h : (mKs M)[j]? = some (nmK t a)) : ∃ p, M[j]? = some p ∧ p.1.t = t ∧ p.1.a = a := by
  simp only [mKs, List.getElem?_map, Option.map_eq_some_iff] at h
  obtain ⟨p, hp, he⟩ := h
  exact ⟨p, hp, nmK_inj he⟩
theorem MI.key (h : MI M ck L) {i : Nat} {p : Ls × Nat} (hp : M[i]? = some p) (j : Nat) : (mKs M)[j]? = some (nmK p.1.t p.1.a) ↔ j = i := by
  constructor
  · intro hj
    obtain ⟨q, hq, h1, h2⟩ := mKs_at hj
    exact (h.uniq hp hq ⟨h1.symm, h2.symm⟩).symm
  · rintro rfl; simp [mKs, hp]
theorem MI.at (h : MI M ck L) {x : Ls} (hx : x ∈ L) : ∃ (i b : Nat), M[i]? = some (x, b) := by
  obtain ⟨p, hp, rfl⟩ := List.mem_map.1 (h.perm.mem_iff.2 hx)
  obtain ⟨i, hi⟩ := List.mem_iff_getElem?.1 hp
  exact ⟨i, p.2, hi⟩
theorem MI.no (h : MI M ck L) {t a : List UInt8} (hn : ∀ x ∈ L, ¬ (x.t = t ∧ x.a = a)) (j : Nat) : (mKs M)[j]? ≠ some (nmK t a) := fun hj => by
  obtain ⟨q, hq, h1, h2⟩ := mKs_at hj
  exact hn _ (h.mem hq) ⟨h1, h2⟩
def hasK (x : Ls) (p : Ls × Nat) : Bool := decide (kEq p.1 x)
def putM (M : List (Ls × Nat)) (ck : Nat) (x : Ls) : List (Ls × Nat) × Nat := match M.findIdx? (hasK x) with
  | some i => (M.set i (x, (M.getD i default).2), ck)
  | none => (M ++ [(x, ck)], ck + 1)
def delM (M : List (Ls × Nat)) (x : Ls) : List (Ls × Nat) := match M.findIdx? (hasK x) with
  | some i => M.eraseIdx i
  | none => M
theorem MI.find (h : MI M ck L) {x y : Ls} {i b : Nat} (hi : M[i]? = some (y, b)) (e : kEq y x) : M.findIdx? (hasK x) = some i := by
  rw [List.findIdx?_eq_some_iff_getElem]
  obtain ⟨hlt, hi'⟩ := List.getElem?_eq_some_iff.1 hi
  refine ⟨hlt, by rw [hi']; exact decide_eq_true e, fun j hj => ?_⟩
  intro hc
  have hc' : kEq M[j].1 x := of_decide_eq_true hc
  have := h.uniq hi (List.getElem?_eq_getElem (by omega)) (kEq_trans e (kEq_symm hc'))
  omega
theorem MI.findN (h : MI M ck L) {x : Ls} (hn : ∀ y ∈ L, ¬ kEq y x) : M.findIdx? (hasK x) = none := by
  rw [List.findIdx?_eq_none_iff]
  intro p hp
  exact decide_eq_false (hn _ (h.perm.mem_iff.1 (List.mem_map.2 ⟨p, hp, rfl⟩)))
theorem MI.putY (h : MI M ck L) {x y : Ls} {i b : Nat} (hi : M[i]? = some (y, b)) (e : kEq y x) : putM M ck x = (M.set i (x, b), ck) := by
  unfold putM
  rw [h.find hi e]
  simp [hi]
theorem MI.putN (h : MI M ck L) {x : Ls} (hn : ∀ y ∈ L, ¬ kEq y x) : putM M ck x = (M ++ [(x, ck)], ck + 1) := by
  unfold putM
  rw [h.findN hn]
theorem MI.delY (h : MI M ck L) {x y : Ls} {i b : Nat} (hi : M[i]? = some (y, b)) (e : kEq y x) : delM M x = M.eraseIdx i := by
  unfold delM
  rw [h.find hi e]
theorem MI.delN (h : MI M ck L) {x : Ls} (hn : ∀ y ∈ L, ¬ kEq y x) : delM M x = M := by
  unfold delM
  rw [h.findN hn]
theorem ents_set {i : Nat} {x y : Ls} {b : Nat} (hi : M[i]? = some (y, b)) (e : kEq y x) : (mpV (M.set i (x, b)) ck).ents = some (mKs M, (mVs M).set i (.val (lsW x)), mBs M, ck) := by
  rw [mpV_ents]
  have e1 : mKs (M.set i (x, b)) = mKs M := by
    unfold mKs
    rw [List.map_set]
    refine List.ext_getElem? fun j => ?_
    rw [List.getElem?_set]
    split
    · rename_i hj; subst hj
      split
      · rw [List.getElem?_map, hi]; show some (nmK x.t x.a) = some (nmK y.t y.a); rw [e.1, e.2]
      · rename_i hh; rw [List.getElem?_eq_none (by omega)]
    · rfl
  have e2 : mBs (M.set i (x, b)) = mBs M := by
    unfold mBs
    rw [List.map_set]
    refine List.ext_getElem? fun j => ?_
    rw [List.getElem?_set]
    split
    · rename_i hj; subst hj
      split
      · rw [List.getElem?_map, hi]; rfl
      · rename_i hh; rw [List.getElem?_eq_none (by omega)]
    · rfl
  rw [e1, e2]
  unfold mVs
  rw [List.map_set]
theorem ents_app {x : Ls} : (mpV (M ++ [(x, ck)]) (ck + 1)).ents = some (mKs M ++ [nmK x.t x.a], mVs M ++ [.val (lsW x)], mBs M ++ [ck], ck + 1) := by
  rw [mpV_ents]; simp [mKs, mVs, mBs]
theorem eraseIdx_map {α β : Type} (f : α → β) (l : List α) (i : Nat) : (l.eraseIdx i).map f = (l.map f).eraseIdx i := by
  induction l generalizing i with
  | nil => rfl
  | cons x r ih => cases i with
    | zero => rfl
    | succ i => simp [ih]
theorem ents_del {i : Nat} : (mpV (M.eraseIdx i) ck).ents = some ((mKs M).eraseIdx i, (mVs M).eraseIdx i, (mBs M).eraseIdx i, ck) := by
  rw [mpV_ents]
  unfold mKs mVs mBs
  rw [eraseIdx_map, eraseIdx_map, eraseIdx_map]
def updL (L : List Ls) (x : Ls) : List Ls := L.map fun y => if kEq y x then x else y
def remL (L : List Ls) (x : Ls) : List Ls := L.filter fun y => !decide (kEq y x)
theorem kLt_congr {x y x' y' : Ls} (h : kLt x y) (e : kEq x x') (k : kEq y y') : kLt x' y' := by
  unfold kLt at *
  rw [← e.1, ← e.2, ← k.1, ← k.2]; exact h
theorem Asc.mapK {l : List Ls} (h : Asc l) (f : Ls → Ls) (hf : ∀ x, kEq x (f x)) : Asc (l.map f) :=
  List.pairwise_map.2 (h.imp fun {a b} hab => kLt_congr hab (hf a) (hf b))
theorem map_set_perm {α : Type} : ∀ (l : List α) (i : Nat) (y x : α), l[i]? = some y → (l.set i x).Perm (x :: l.eraseIdx i)
  | [], i, y, x, h => by simp at h
  | z :: r, 0, y, x, h => by simp
  | z :: r, i + 1, y, x, h => by
    have := map_set_perm r i y x (by simpa using h)
    show (z :: r.set i x).Perm (x :: z :: r.eraseIdx i)
    exact (this.cons z).trans (List.Perm.swap x z _)
theorem erase_perm {α : Type} : ∀ (l : List α) (i : Nat) (y : α), l[i]? = some y → l.Perm (y :: l.eraseIdx i)
  | [], i, y, h => by simp at h
  | z :: r, 0, y, h => by simp at h; subst h; simp
  | z :: r, i + 1, y, h => by
    have := erase_perm r i y (by simpa using h)
    exact (this.cons z).trans (List.Perm.swap y z _)
theorem MI.put (h : MI M ck L) {x y : Ls} (hy : y ∈ L) (e : kEq y x) : MI (putM M ck x).1 (putM M ck x).2 (updL L x) := by
  obtain ⟨i, b, hi⟩ := h.at hy
  rw [h.putY hi e]
  have hs := ents_set (ck := ck) hi e
  rw [mpV_ents] at hs
  injection hs with hs; injection hs with h1 hs; injection hs with h2 hs; injection hs with h3 _
  refine ⟨?_, ?_, by show (mBs _).Nodup; rw [h3]; exact h.bnd, by show ∀ n ∈ mBs _, _; rw [h3]; exact h.blt, fun z hz => ?_, by unfold updL; rw [List.length_map]; exact h.len⟩
  · have e1 : (M.set i (x, b)).map (·.1) = (M.map (·.1)).map fun z => if kEq z x then x else z := by
      refine List.ext_getElem? fun j => ?_
      rw [List.getElem?_map, List.getElem?_map, List.getElem?_map, List.getElem?_set]
      split
      · rename_i hj; subst hj
        split
        · rw [hi]; show some x = some (if kEq y x then x else y); rw [if_pos e]
        · rename_i hh; rw [List.getElem?_eq_none (by omega)]; rfl
      · rename_i hj
        cases hq : M[j]? with
        | none => rfl
        | some q =>
          show some q.1 = some (if kEq q.1 x then x else q.1)
          rw [if_neg fun hc => hj (h.uniq hi hq (kEq_trans e (kEq_symm hc)))]
    show ((M.set i (x, b)).map (·.1)).Perm _
    rw [e1]
    exact h.perm.map _
  · refine h.asc.mapK _ fun z => ?_
    by_cases hz : kEq z x
    · rw [if_pos hz]; exact hz
    · rw [if_neg hz]; exact ⟨rfl, rfl⟩
  · obtain ⟨u, hu, rfl⟩ := List.mem_map.1 hz
    by_cases hx : kEq u x
    · rw [if_pos hx, ← hx.1, ← hx.2]; exact h.sz u hu
    · rw [if_neg hx]; exact h.sz u hu
theorem MI.del (h : MI M ck L) (x : Ls) : MI (delM M x) ck (remL L x) := by
  by_cases hx : ∃ y ∈ L, kEq y x
  · obtain ⟨y, hy, e⟩ := hx
    obtain ⟨i, b, hi⟩ := h.at hy
    rw [h.delY hi e]
    refine ⟨?_, h.asc.filter _, ?_, fun n hn => ?_, fun z hz => h.sz z (List.mem_filter.1 hz).1, Nat.le_trans (List.length_filter_le _ _) h.len⟩
    · have hp := (erase_perm M i _ hi).map (·.1)
      have hq := (h.perm.symm.trans hp).filter (fun z => !decide (kEq z x))
      refine (hq.trans ?_).symm
      rw [List.map_cons, List.filter_cons_of_neg (by simpa using e)]
      rw [List.filter_eq_self.2]
      intro z hz
      simp only [Bool.not_eq_true', decide_eq_false_iff_not]
      intro hc
      rw [eraseIdx_map] at hz
      obtain ⟨j, hj⟩ := List.mem_iff_getElem?.1 hz
      rw [List.getElem?_eraseIdx] at hj
      split at hj
      · rename_i hlt
        rw [List.getElem?_map, Option.map_eq_some_iff] at hj
        obtain ⟨q, hq, rfl⟩ := hj
        have := h.uniq hi hq (kEq_trans e (kEq_symm hc))
        omega
      · rename_i hlt
        rw [List.getElem?_map, Option.map_eq_some_iff] at hj
        obtain ⟨q, hq, rfl⟩ := hj
        have := h.uniq hi hq (kEq_trans e (kEq_symm hc))
        omega
    · show (mBs (M.eraseIdx i)).Nodup
      unfold mBs
      rw [eraseIdx_map]
      exact h.bnd.sublist (List.eraseIdx_sublist _ _)
    · refine h.blt n ?_
      unfold mBs at hn ⊢
      rw [eraseIdx_map] at hn
      exact (List.eraseIdx_sublist _ _).subset hn
  · have hn : ∀ y ∈ L, ¬ kEq y x := fun y hy e => hx ⟨y, hy, e⟩
    rw [h.delN hn]
    have : remL L x = L := List.filter_eq_self.2 fun y hy => by simpa using hn y hy
    rw [this]
    exact h
def insL (x : Ls) : Bool → List Ls → List Ls
  | d, [] => if d then [] else [x]
  | d, y :: r => if kEq y x then insL x d r else if !d && decide (kLt x y) then x :: y :: insL x true r else y :: insL x d r
theorem insL_true (x : Ls) (l : List Ls) : insL x true l = remL l x := by
  induction l with
  | nil => rfl
  | cons y r ih =>
    unfold insL remL
    by_cases h : kEq y x
    · rw [if_pos h, ih, List.filter_cons_of_neg (by simpa using h)]; rfl
    · rw [if_neg h, List.filter_cons_of_pos (by simpa using h)]
      show (if (false && _) = true then _ else _) = _
      rw [Bool.false_and, if_neg (by decide), ih]; rfl
theorem insL_perm (x : Ls) (l : List Ls) : (insL x false l).Perm (x :: remL l x) := by
  induction l with
  | nil => exact List.Perm.refl _
  | cons y r ih =>
    unfold insL remL
    by_cases h : kEq y x
    · rw [if_pos h, List.filter_cons_of_neg (by simpa using h)]; exact ih
    · rw [if_neg h, List.filter_cons_of_pos (by simpa using h)]
      by_cases k : kLt x y
      · rw [if_pos (by simpa using k), insL_true]; exact List.Perm.refl _
      · rw [if_neg (by simpa using k)]
        exact (ih.cons y).trans (List.Perm.swap x y _)
theorem remL_mem {l : List Ls} {x y : Ls} (h : y ∈ remL l x) : y ∈ l ∧ ¬ kEq y x := by
  obtain ⟨h1, h2⟩ := List.mem_filter.1 h
  exact ⟨h1, by simpa using h2⟩
theorem Asc.ins {l : List Ls} (h : Asc l) (x : Ls) : Asc (insL x false l) := by
  induction l with
  | nil => exact List.pairwise_singleton _ _
  | cons y r ih =>
    obtain ⟨h1, h2⟩ := List.pairwise_cons.1 h
    unfold insL
    by_cases hy : kEq y x
    · rw [if_pos hy]; exact ih h2
    · rw [if_neg hy]
      by_cases k : kLt x y
      · rw [if_pos (by simpa using k), insL_true]
        refine List.pairwise_cons.2 ⟨fun z hz => ?_, List.pairwise_cons.2 ⟨fun z hz => h1 z (remL_mem hz).1, h2.filter _⟩⟩
        rcases List.mem_cons.1 hz with rfl | hz
        · exact k
        · exact kLt_trans k (h1 z (remL_mem hz).1)
      · rw [if_neg (by simpa using k)]
        refine List.pairwise_cons.2 ⟨fun z hz => ?_, ih h2⟩
        rcases List.mem_cons.1 ((insL_perm x r).mem_iff.1 hz) with rfl | hz
        · rcases kLt_tri y z with q | q | q
          · exact q
          · exact absurd q hy
          · exact absurd q k
        · exact h1 z (remL_mem hz).1
theorem MI.ins (h : MI M ck L) {x : Ls} (hs : x.t.length ≤ 63 ∧ x.a.length ≤ 63) (hl : (∃ y ∈ L, kEq y x) ∨ L.length < 4096) : MI (putM M ck x).1 (putM M ck x).2 (insL x false L) := by
  by_cases hx : ∃ y ∈ L, kEq y x
  · obtain ⟨y, hy, e⟩ := hx
    have hm := h.put hy e
    have hp : (updL L x).Perm (insL x false L) := by
      refine List.Perm.trans ?_ (insL_perm x L).symm
      obtain ⟨i, hi⟩ := List.mem_iff_getElem?.1 hy
      have e1 : updL L x = L.set i x := by
        refine List.ext_getElem? fun j => ?_
        unfold updL
        rw [List.getElem?_map, List.getElem?_set]
        split
        · rename_i hj; subst hj
          rw [hi]
          rw [if_pos (List.getElem?_eq_some_iff.1 hi).1]
          show some (if kEq y x then x else y) = some x
          rw [if_pos e]
        · rename_i hj
          cases hq : L[j]? with
          | none => rfl
          | some q =>
            show some (if kEq q x then x else q) = some q
            rw [if_neg fun hc => hj ?_]
            have hh := h.asc.ne
            rw [List.pairwise_iff_getElem] at hh
            obtain ⟨hi1, hi2⟩ := List.getElem?_eq_some_iff.1 hi
            obtain ⟨hj1, hj2⟩ := List.getElem?_eq_some_iff.1 hq
            rcases Nat.lt_trichotomy i j with k | k | k
            · exact absurd (by rw [hi2, hj2]; exact kEq_trans e (kEq_symm hc)) (hh i j hi1 hj1 k)
            · exact k
            · exact absurd (by rw [hi2, hj2]; exact kEq_trans hc (kEq_symm e)) (hh j i hj1 hi1 k)
      rw [e1]
      refine (map_set_perm L i y x hi).trans (List.Perm.cons x ?_)
      have hr : (remL L x).Perm (remL (y :: L.eraseIdx i) x) := (erase_perm L i y hi).filter _
      refine List.Perm.trans ?_ hr.symm
      unfold remL
      rw [List.filter_cons_of_neg (by simpa using e), List.filter_eq_self.2]
      intro z hz
      simp only [Bool.not_eq_true', decide_eq_false_iff_not]
      intro hc
      have hyz := h.asc.same ((List.eraseIdx_sublist L i).subset hz) hy (kEq_trans hc (kEq_symm e))
      subst hyz
      have hn : L.Nodup := h.asc.imp fun {a b} (hab : kLt a b) (hc : a = b) => kLt_irrefl b (by rw [hc] at hab; exact hab)
      obtain ⟨j, hj⟩ := List.mem_iff_getElem?.1 hz
      rw [List.getElem?_eraseIdx] at hj
      have hinj := fun (a b : Nat) (ha : L[a]? = some z) (hb : L[b]? = some z) => (List.getElem?_inj (List.getElem?_eq_some_iff.1 ha).1 hn).1 (ha.trans hb.symm)
      split at hj
      · have := hinj i j hi hj; omega
      · have := hinj i (j + 1) hi hj; omega
    exact ⟨hm.perm.trans hp, h.asc.ins x, hm.bnd, hm.blt, fun z hz => hm.sz z (hp.mem_iff.2 hz), by rw [← hp.length_eq]; exact hm.len⟩
  · have hn : ∀ y ∈ L, ¬ kEq y x := fun y hy e => hx ⟨y, hy, e⟩
    have hl' := hl.resolve_left hx
    rw [h.putN hn]
    have hr : remL L x = L := List.filter_eq_self.2 fun y hy => by simpa using hn y hy
    have hp := insL_perm x L
    rw [hr] at hp
    refine ⟨?_, h.asc.ins x, ?_, fun n hn' => ?_, fun z hz => ?_, by rw [hp.length_eq]; show L.length + 1 ≤ _; omega⟩
    · show ((M ++ [(x, ck)]).map (·.1)).Perm _
      rw [List.map_append]
      exact (List.perm_append_comm.trans (h.perm.cons x)).trans hp.symm
    · show (mBs (M ++ [(x, ck)])).Nodup
      unfold mBs
      rw [List.map_append]
      exact List.nodup_append.2 ⟨h.bnd, by simp, fun a ha b hb => by simp at hb; subst hb; have := h.blt a ha; omega⟩
    · have hn' : n ∈ mBs (M ++ [(x, ck)]) := hn'
      unfold mBs at hn'
      rw [List.map_append] at hn'
      rcases List.mem_append.1 hn' with hh | hh
      · have := h.blt n hh; show n < ck + 1; omega
      · simp at hh; subst hh; exact Nat.lt_succ_self _
    · rcases List.mem_cons.1 (hp.mem_iff.1 hz) with rfl | hz
      · exact hs
      · exact h.sz z hz
end Go.Proofs.YticickigndgpcaaDoor
namespace Go.Proofs.YticickigndgpcaaDoor
open Go.RowKit
structure FS (M : List (Ls × Nat)) (wd : Ls → Bool) where
  seen : List Nat
  F : List Ls
  hp : F.Perm (((M.filter fun p => decide (p.2 ∈ seen)).map (·.1)).filter wd)
variable {M : List (Ls × Nat)} {ck : Nat} {L : List Ls} {wd : Ls → Bool} {seen : List Nat} {F : List Ls}
def FS.mu (M : List (Ls × Nat)) (seen : List Nat) : Nat := (M.filter fun p => decide (p.2 ∉ seen)).length
theorem FS.none0 (M : List (Ls × Nat)) (wd : Ls → Bool) : ([] : List Ls).Perm (((M.filter fun p => decide (p.2 ∈ ([] : List Nat))).map (·.1)).filter wd) := by
  have : (M.filter fun p => decide (p.2 ∈ ([] : List Nat))) = [] := List.filter_eq_nil_iff.2 fun p _ => by simp
  rw [this]; exact List.Perm.refl _
def atM (M : List (Ls × Nat)) (j : Nat) : Ls := (M.getD j default).1
theorem atM_eq {j n : Nat} (hj : (mBs M)[j]? = some n) : M[j]? = some (atM M j, n) := by
  simp only [mBs, List.getElem?_map, Option.map_eq_some_iff] at hj
  obtain ⟨p, hp, rfl⟩ := hj
  simp [atM, hp]
theorem MI.atL (h : MI M ck L) {j n : Nat} (hj : (mBs M)[j]? = some n) : atM M j ∈ L := h.mem (p := (atM M j, n)) (atM_eq hj)
theorem MI.met (h : MI M ck L) {j n : Nat} (hj : (mBs M)[j]? = some n) (hn : n ∉ seen) : (M.filter fun p => decide (p.2 ∈ seen ++ [n])).Perm ((atM M j, n) :: M.filter fun p => decide (p.2 ∈ seen)) := by
  have hM : M.Nodup := (List.pairwise_map.1 h.bnd).imp fun hab e => hab (congrArg (·.2) e)
  have hat := atM_eq hj
  have hmem := List.mem_of_getElem? hat
  refine (List.perm_ext_iff_of_nodup (hM.sublist List.filter_sublist) (List.nodup_cons.2 ⟨fun hc => ?_, hM.sublist List.filter_sublist⟩)).2 fun p => ?_
  · exact hn (by simpa using (List.mem_filter.1 hc).2)
  · constructor
    · intro hp
      obtain ⟨h1, h2⟩ := List.mem_filter.1 hp
      rcases List.mem_append.1 (by simpa using h2 : p.2 ∈ seen ++ [n]) with h3 | h3
      · exact List.mem_cons_of_mem _ (List.mem_filter.2 ⟨h1, by simpa using h3⟩)
      · have h4 : p.2 = n := by simpa using h3
        obtain ⟨i, hi⟩ := List.mem_iff_getElem?.1 h1
        have hb : (mBs M)[i]? = some n := by simp [mBs, hi, h4]
        have hij : i = j := (List.getElem?_inj (List.getElem?_eq_some_iff.1 hb).1 h.bnd).1 (hb.trans hj.symm)
        subst hij
        rw [hi] at hat; injection hat with hat
        rw [hat]; exact List.mem_cons_self
    · intro hp
      rcases List.mem_cons.1 hp with rfl | hp
      · exact List.mem_filter.2 ⟨hmem, by simp⟩
      · obtain ⟨h1, h2⟩ := List.mem_filter.1 hp
        exact List.mem_filter.2 ⟨h1, by simp only [decide_eq_true_eq] at h2 ⊢; exact List.mem_append_left _ h2⟩
theorem MI.yes (h : MI M ck L) {j n : Nat} (hj : (mBs M)[j]? = some n) (hn : n ∉ seen) (hp : F.Perm (((M.filter fun p => decide (p.2 ∈ seen)).map (·.1)).filter wd)) (hw : wd (atM M j) = true) : (F ++ [atM M j]).Perm (((M.filter fun p => decide (p.2 ∈ seen ++ [n])).map (·.1)).filter wd) := by
  refine List.perm_append_comm.trans ?_
  refine List.Perm.trans ?_ (((h.met hj hn).map (·.1)).filter wd).symm
  rw [List.map_cons, List.filter_cons_of_pos (by simpa using hw)]
  exact hp.cons _
theorem MI.nope (h : MI M ck L) {j n : Nat} (hj : (mBs M)[j]? = some n) (hn : n ∉ seen) (hp : F.Perm (((M.filter fun p => decide (p.2 ∈ seen)).map (·.1)).filter wd)) (hw : wd (atM M j) = false) : F.Perm (((M.filter fun p => decide (p.2 ∈ seen ++ [n])).map (·.1)).filter wd) := by
  refine List.Perm.trans ?_ (((h.met hj hn).map (·.1)).filter wd).symm
  rw [List.map_cons, List.filter_cons_of_neg (by simp [hw])]
  exact hp
theorem FS.less {j n : Nat} (hj : (mBs M)[j]? = some n) (hn : n ∉ seen) : FS.mu M (seen ++ [n]) < FS.mu M seen := by
  unfold FS.mu
  have e : (M.filter fun p => decide (p.2 ∉ seen ++ [n])) = (M.filter fun p => decide (p.2 ∉ seen)).filter fun p => decide (p.2 ≠ n) := by
    rw [List.filter_filter]
    refine List.filter_congr fun p _ => ?_
    by_cases h1 : p.2 ∈ seen <;> by_cases h2 : p.2 = n <;> simp [h1, h2]
  rw [e]
  refine List.length_filter_lt_length_iff_exists.2 ⟨(atM M j, n), List.mem_filter.2 ⟨List.mem_of_getElem? (atM_eq hj), by simpa using hn⟩, by simp⟩
theorem MI.all (h : MI M ck L) (hp : F.Perm (((M.filter fun p => decide (p.2 ∈ seen)).map (·.1)).filter wd)) (ha : ∀ n ∈ mBs M, n ∈ seen) : F.Perm (L.filter wd) := by
  have : (M.filter fun p => decide (p.2 ∈ seen)) = M := List.filter_eq_self.2 fun p hp => by simpa using ha p.2 (List.mem_map.2 ⟨p, hp, rfl⟩)
  rw [this] at hp
  exact hp.trans (h.perm.filter wd)
theorem MI.few (h : MI M ck L) (hp : F.Perm (((M.filter fun p => decide (p.2 ∈ seen)).map (·.1)).filter wd)) : F.length ≤ 4096 := by
  rw [hp.length_eq]
  refine Nat.le_trans (List.length_filter_le _ _) ?_
  rw [List.length_map]
  refine Nat.le_trans (List.length_filter_le _ _) ?_
  rw [h.size]; exact h.len
theorem bs_getD {j n : Nat} (hj : (mBs M)[j]? = some n) : (mBs M).getD j 0 = n := by rw [List.getD_eq_getElem?_getD, hj]; rfl
theorem MI.bUniq (h : MI M ck L) {j n : Nat} (hj : (mBs M)[j]? = some n) (i : Nat) (hi : (mBs M)[i]? = some n) : i = j := (List.getElem?_inj (List.getElem?_eq_some_iff.1 hi).1 h.bnd).1 (hi.trans hj.symm)
end Go.Proofs.YticickigndgpcaaDoor
namespace Go.Proofs.YticickigndgpcaaDoor
open Go.RowKit
variable {M : List (Ls × Nat)} {ck : Nat} {L : List Ls} {wd : Ls → Bool} {F : List Ls}
def dlN (M : List (Ls × Nat)) (F : List Ls) : Nat → List (Ls × Nat)
  | 0 => M
  | i + 1 => delM (dlN M F i) (F.getD i default)
def remN (L : List Ls) (F : List Ls) : Nat → List Ls
  | 0 => L
  | i + 1 => remL (remN L F i) (F.getD i default)
theorem MI.dels (h : MI M ck L) (F : List Ls) (i : Nat) : MI (dlN M F i) ck (remN L F i) := by
  induction i with
  | zero => exact h
  | succ i ih => exact ih.del _
theorem mem_remN {x : Ls} (i : Nat) : x ∈ remN L F i ↔ x ∈ L ∧ ∀ j, j < i → ¬ kEq x (F.getD j default) := by
  induction i with
  | zero => exact ⟨fun h => ⟨h, fun j hj => absurd hj (Nat.not_lt_zero _)⟩, fun h => h.1⟩
  | succ i ih =>
    show x ∈ remL (remN L F i) (F.getD i default) ↔ _
    unfold remL
    rw [List.mem_filter, ih]
    simp only [Bool.not_eq_true', decide_eq_false_iff_not]
    constructor
    · rintro ⟨⟨h1, h2⟩, h3⟩
      exact ⟨h1, fun j hj => (Nat.lt_succ_iff_lt_or_eq.1 hj).elim (h2 j) fun e => e ▸ h3⟩
    · rintro ⟨h1, h2⟩
      exact ⟨⟨h1, fun j hj => h2 j (Nat.lt_succ_of_lt hj)⟩, h2 i (Nat.lt_succ_self i)⟩
theorem getD_mem {l : List Ls} {i : Nat} (h : i < l.length) : l.getD i default ∈ l := by
  rw [List.getD_eq_getElem?_getD, List.getElem?_eq_getElem h]; exact List.getElem_mem h
theorem Asc.diff {l : List Ls} (h : Asc l) {i j : Nat} (hi : i < l.length) (hj : j < i) : ¬ kEq (l.getD i default) (l.getD j default) := by
  have := h.ne
  rw [List.pairwise_iff_getElem] at this
  rw [List.getD_eq_getElem?_getD, List.getElem?_eq_getElem hi, List.getD_eq_getElem?_getD, List.getElem?_eq_getElem (by omega)]
  exact fun e => this j i (by omega) hi hj (kEq_symm e)
theorem left_remN (hL : Asc L) {i : Nat} (hi : i < (L.filter wd).length) : (L.filter wd).getD i default ∈ remN L (L.filter wd) i :=
  (mem_remN i).2 ⟨(List.mem_filter.1 (getD_mem hi)).1, fun j hj => (hL.filter wd).diff hi hj⟩
theorem Asc.ext {l m : List Ls} (hl : Asc l) (hm : Asc m) (h : ∀ x, x ∈ l ↔ x ∈ m) : l = m := by
  have nd : ∀ l : List Ls, Asc l → l.Nodup := fun l hl => hl.imp fun {a b} (hab : kLt a b) (hc : a = b) => kLt_irrefl b (by rw [hc] at hab; exact hab)
  exact hm.unique (hl.imp fun {a b} hab hba => kLt_irrefl _ (kLt_trans hab hba)) ((List.perm_ext_iff_of_nodup (nd l hl) (nd m hm)).2 h)
theorem Asc.remN {l : List Ls} (h : Asc l) (F : List Ls) (i : Nat) : Asc (remN l F i) := by
  induction i with
  | zero => exact h
  | succ i ih => exact ih.filter _
theorem remN_all (hL : Asc L) : remN L (L.filter wd) (L.filter wd).length = L.filter fun x => !wd x := by
  refine (hL.remN _ _).ext (hL.filter _) fun x => ?_
  rw [mem_remN, List.mem_filter]
  refine and_congr_right fun hx => ?_
  constructor
  · intro h
    cases hw : wd x with
    | false => rfl
    | true =>
      obtain ⟨j, hj⟩ := List.mem_iff_getElem?.1 (List.mem_filter.2 ⟨hx, hw⟩)
      exact absurd ⟨by rw [List.getD_eq_getElem?_getD, hj]; rfl, by rw [List.getD_eq_getElem?_getD, hj]; rfl⟩ (h j (List.getElem?_eq_some_iff.1 hj).1)
  · intro hw j hj e
    have hm := List.mem_filter.1 (getD_mem hj)
    have := hL.same hx hm.1 e
    rw [← this] at hm
    rw [hm.2] at hw; cases hw
def beatL (n : Int) (x : Ls) : Ls := { x with l := max x.l (min (max n 0) 1099511627776) }
def ptN (M : List (Ls × Nat)) (ck : Nat) (F : List Ls) : Nat → List (Ls × Nat) × Nat
  | 0 => (M, ck)
  | i + 1 => putM (ptN M ck F i).1 (ptN M ck F i).2 (F.getD i default)
def updN (L : List Ls) (F : List Ls) : Nat → List Ls
  | 0 => L
  | i + 1 => updL (updN L F i) (F.getD i default)
theorem updL_key {l : List Ls} {x y : Ls} (h : y ∈ l) (hn : ¬ kEq y x) : y ∈ updL l x := List.mem_map.2 ⟨y, h, if_neg hn⟩
theorem mem_updN {x : Ls} {i : Nat} (h : x ∈ L) (hn : ∀ j, j < i → ¬ kEq x (F.getD j default)) : x ∈ updN L F i := by
  induction i with
  | zero => exact h
  | succ i ih => exact updL_key (ih fun j hj => hn j (by omega)) (hn i (Nat.lt_succ_self i))
theorem getD_map {f : Ls → Ls} {l : List Ls} {i : Nat} (h : i < l.length) : (l.map f).getD i default = f (l.getD i default) := by
  rw [List.getD_eq_getElem?_getD, List.getElem?_map, List.getElem?_eq_getElem h, List.getD_eq_getElem?_getD, List.getElem?_eq_getElem h]; rfl
theorem beatL_key (n : Int) (x : Ls) : kEq x (beatL n x) := ⟨rfl, rfl⟩
theorem left_updN (hL : Asc L) (n : Int) {i : Nat} (hi : i < (L.filter wd).length) : (L.filter wd).getD i default ∈ updN L ((L.filter wd).map (beatL n)) i := by
  refine mem_updN (List.mem_filter.1 (getD_mem hi)).1 fun j hj e => ?_
  rw [getD_map (by omega)] at e
  exact (hL.filter wd).diff hi hj (kEq_trans e (kEq_symm (beatL_key n _)))
theorem MI.puts (h : MI M ck L) (n : Int) {i : Nat} (hi : i ≤ (L.filter wd).length) : MI (ptN M ck ((L.filter wd).map (beatL n)) i).1 (ptN M ck ((L.filter wd).map (beatL n)) i).2 (updN L ((L.filter wd).map (beatL n)) i) := by
  induction i with
  | zero => exact h
  | succ i ih =>
    have hm := left_updN (wd := wd) h.asc n (show i < (L.filter wd).length by omega)
    show MI (putM _ _ (((L.filter wd).map (beatL n)).getD i default)).1 _ _
    exact (ih (by omega)).put hm (by rw [getD_map (by omega)]; exact beatL_key n _)
theorem updN_at (hL : Asc L) (n : Int) {i : Nat} (hi : i ≤ (L.filter wd).length) : updN L ((L.filter wd).map (beatL n)) i = L.map fun y => if y ∈ (L.filter wd).take i then beatL n y else y := by
  induction i with
  | zero => show L = L.map _; simp
  | succ i ih =>
    show updL (updN L _ i) _ = _
    rw [ih (by omega)]
    unfold updL
    rw [List.map_map, getD_map (by omega)]
    refine List.map_congr_left fun y hy => ?_
    have hlt : i < (L.filter wd).length := by omega
    have ht : (L.filter wd).take (i + 1) = (L.filter wd).take i ++ [(L.filter wd).getD i default] := by
      rw [List.take_succ_eq_append_getElem hlt, List.getD_eq_getElem?_getD, List.getElem?_eq_getElem hlt]; rfl
    have hgm := (List.mem_filter.1 (getD_mem hlt)).1
    have hni : (L.filter wd).getD i default ∉ (L.filter wd).take i := fun hc => by
      obtain ⟨j, hj⟩ := List.mem_iff_getElem?.1 hc
      rw [List.getElem?_take] at hj
      split at hj
      · rename_i hji
        have := (hL.filter wd).diff hlt hji
        rw [List.getD_eq_getElem?_getD (l := L.filter wd) (i := j), hj] at this
        exact this ⟨rfl, rfl⟩
      · cases hj
    show (if kEq (if y ∈ (L.filter wd).take i then beatL n y else y) (beatL n ((L.filter wd).getD i default)) then beatL n ((L.filter wd).getD i default) else (if y ∈ (L.filter wd).take i then beatL n y else y)) = _
    rw [ht]
    have hkey : kEq (if y ∈ (L.filter wd).take i then beatL n y else y) (beatL n ((L.filter wd).getD i default)) ↔ y = (L.filter wd).getD i default := by
      constructor
      · intro e
        refine hL.same hy hgm ?_
        refine kEq_trans ?_ (kEq_trans e (kEq_symm (beatL_key n _)))
        split
        · exact beatL_key n y
        · exact ⟨rfl, rfl⟩
      · intro e
        rw [e, if_neg hni]; exact beatL_key n _
    by_cases hy2 : y = (L.filter wd).getD i default
    · rw [if_pos (hkey.2 hy2), if_pos (List.mem_append_right _ (by rw [← hy2]; exact List.mem_singleton.2 rfl)), ← hy2]
    · rw [if_neg (fun e => hy2 (hkey.1 e))]
      by_cases hm : y ∈ (L.filter wd).take i
      · rw [if_pos hm, if_pos (List.mem_append_left _ hm)]
      · rw [if_neg hm, if_neg (fun e => (List.mem_append.1 e).elim hm fun e => hy2 (List.mem_singleton.1 e))]
theorem updN_all (hL : Asc L) (n : Int) : updN L ((L.filter wd).map (beatL n)) (L.filter wd).length = L.map fun y => if wd y then beatL n y else y := by
  rw [updN_at hL n (Nat.le_refl _), List.take_length]
  refine List.map_congr_left fun y hy => ?_
  by_cases h : wd y = true
  · rw [if_pos h, if_pos (List.mem_filter.2 ⟨hy, h⟩)]
  · rw [if_neg h, if_neg fun hc => h (List.mem_filter.1 hc).2]
end Go.Proofs.YticickigndgpcaaDoor
namespace Go.Proofs.YticickigndgpcaaDoor
open Go.RowKit
theorem AV.still_one {x : AV} (h : x.still = true) : x.one = true := by cases x <;> first | rfl | cases h
theorem op_loadRow_fptr {P : Program} {T : Nat → Option AV} {H : Hp} {nm : Nat} {wr : Bool} {d : Option Tmp} {ty t : TypeId} {ps : String} {af : Array Edge} {gd : Option (Nat × Bool)} {x : Operand} {dd : TypeDesc} {m : Nat} {cs row : List AV} {v : AV} (hu : P.underlying t = some dd) (hna : (match dd with | .struct _ | .array _ _ => true | _ => false) = true) (hz : (P.info? t).map (·.size) = some m)
    (hx : aev T x = some (.fptr cs)) (hv : v.parts = some row) (hr : cs.take m = row) (hm : row.length = m) :
    OpSem P T H ⟨d, .load t x, ty, ps, af, gd⟩ nm wr v [] :=
  .reads fun E S a w h hR => by
    obtain ⟨L, g, q, o, s, h1, h2, h3, h4, h5, h6⟩ := (h x mem1 _ hx).fptr_inv
    obtain ⟨⟨arr, tq, fz, g1, _, g3⟩, _⟩ := hR.deep q L s h1
    have hle : m ≤ cs.length := by rw [← hm, ← hr, List.length_take]; exact Nat.min_le_right _ _
    have hrun := run_loadCells_list (P := P) w ⟨q, o, none⟩ ((List.range m).map g) (fun j v hj => by
      rw [List.getElem?_map, Option.map_eq_some_iff] at hj
      obtain ⟨k, hk, rfl⟩ := hj
      have hjm : j < m := by have := (List.getElem?_eq_some_iff.1 hk).1; simpa using this
      have hkj : k = j := by rw [List.getElem?_range hjm] at hk; injection hk with hk; exact hk.symm
      subst hkj
      rw [add_at]
      exact (cell_of_row w q (o + k) arr tq fz g1).trans (g3 _ _ (h3 k (by omega))))
    have hl2 : ((List.range m).map g).length = m := by simp
    rw [hl2] at hrun
    refine ⟨.agg ((List.range m).map g).toArray, ?_, .agg _ row _ hv (by simp [hm]) (fun x hx => ?_) (fun i x y hx hy => ?_)⟩
    · simp [execOp, h6, Instr.loadAt, Instr.sureAddr, loadVar, run_isAgg_yes hu hna, run_sizeOf_is hz, hrun]
    · rw [← hr] at hx; exact AV.still_one (h2 x (List.mem_of_mem_take hx))
    · have him : i < m := by rw [← hm]; exact (List.getElem?_eq_some_iff.1 hx).1
      rw [← hr, List.getElem?_take, if_pos him] at hx
      simp only [List.getElem?_toArray, List.getElem?_map, List.getElem?_range him, Option.map_some, Option.some.injEq] at hy
      subst hy
      exact h4 i x hx
theorem ls_take {l : List Ls} {i : Nat} (h : i < l.length) : ((lsC l).drop (i * 5)).take 5 = (l.getD i default).cs := by
  rw [lsC_drop h]; rfl
end Go.Proofs.YticickigndgpcaaDoor
namespace Go.Proofs.YticickigndgpcaaDoor
open Go.RowKit
theorem drop_cons {l : List Ls} {i : Nat} (h : i < l.length) : l.drop i = l.getD i default :: l.drop (i + 1) := by
  rw [List.drop_eq_getElem_cons h, List.getD_eq_getElem?_getD, List.getElem?_eq_getElem h]; rfl
theorem take_snoc {l : List Ls} {i : Nat} (h : i < l.length) : l.take (i + 1) = l.take i ++ [l.getD i default] := by
  rw [List.take_succ_eq_append_getElem h, List.getD_eq_getElem?_getD, List.getElem?_eq_getElem h]; rfl
def cntN (wd : Ls → Bool) (L : List Ls) (i : Nat) : Nat := ((L.take i).filter wd).length
theorem cntN_le (wd : Ls → Bool) (L : List Ls) (i : Nat) : cntN wd L i ≤ L.length := Nat.le_trans (List.length_filter_le _ _) (by rw [List.length_take]; exact Nat.min_le_right _ _)
def fltN' (wd : Ls → Bool) (L : List Ls) (i : Nat) : List Ls := (L.take i).filter wd
theorem flt_yes {wd : Ls → Bool} {L : List Ls} {i : Nat} (h : i < L.length) (hw : wd (L.getD i default) = true) : fltN' wd L (i + 1) = fltN' wd L i ++ [L.getD i default] := by
  unfold fltN'
  rw [take_snoc h, List.filter_append, List.filter_cons_of_pos hw]; rfl
theorem flt_no {wd : Ls → Bool} {L : List Ls} {i : Nat} (h : i < L.length) (hw : wd (L.getD i default) = false) : fltN' wd L (i + 1) = fltN' wd L i := by
  unfold fltN'
  rw [take_snoc h, List.filter_append, List.filter_cons_of_neg (by rw [hw]; decide)]; simp
theorem flt_all {wd : Ls → Bool} {L : List Ls} {i : Nat} (h : ¬ (i : Int) < (L.length : Int)) : fltN' wd L i = L.filter wd := by
  unfold fltN'
  rw [List.take_of_length_le (by omega)]
theorem flt_le {wd : Ls → Bool} {L : List Ls} {i : Nat} : (fltN' wd L i).length ≤ L.length := cntN_le wd L i
end Go.Proofs.YticickigndgpcaaDoor
