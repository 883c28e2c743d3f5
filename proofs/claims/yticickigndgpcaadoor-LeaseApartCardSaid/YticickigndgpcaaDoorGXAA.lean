/-
  Texts of this claim.
-/
import Derived.Test.YticickigndgpcaaDoorGL0A
import Derived.Test.YticickigndgpcaaDoorGX1A
import Derived.Test.YticickigndgpcaaDoorGX3A
import Derived.Test.YticickigndgpcaaDoorGKA
import Derived.Test.YticickigndgpcaaDoorGX9A
import Derived.Test.YticickigndgpcaaDoorGX2A
namespace Go.Proofs.YticickigndgpcaaDoor
open Go.RowKit
def zE (x : Ls) : Ls := { x with e := 0 }
def mineP (x : Ls) : Bool := x.t == [116]
theorem mineP_iff {x : Ls} : mineP x = true ↔ x.t = [116] := by unfold mineP; exact beq_iff_eq
theorem zE_eq {x y : Ls} (h : zE x = zE y) : x.t = y.t ∧ x.a = y.a ∧ x.o = y.o ∧ x.l = y.l := by
  have := Ls.mk.inj h
  exact ⟨this.1, this.2.1, this.2.2.1, this.2.2.2.2⟩
theorem zE_key {x y : Ls} (h : zE x = zE y) : kEq x y := ⟨(zE_eq h).1, (zE_eq h).2.1⟩
structure Ap (La Lb : List Ls) : Prop where
  asa : Asc La
  asb : Asc Lb
  eq : (La.filter mineP).map zE = Lb.map zE
section
variable {La Lb : List Ls}
theorem Ap.nil : Ap [] [] := ⟨List.Pairwise.nil, List.Pairwise.nil, rfl⟩
theorem Ap.memB (h : Ap La Lb) {y : Ls} (hy : y ∈ Lb) : ∃ x ∈ La, x.t = [116] ∧ zE x = zE y := by
  have h1 : zE y ∈ Lb.map zE := List.mem_map_of_mem hy
  rw [← h.eq] at h1
  obtain ⟨x, hx, e⟩ := List.mem_map.1 h1
  exact ⟨x, (List.mem_filter.1 hx).1, mineP_iff.1 (List.mem_filter.1 hx).2, e⟩
theorem Ap.memA (h : Ap La Lb) {x : Ls} (hx : x ∈ La) (ht : x.t = [116]) : ∃ y ∈ Lb, zE x = zE y := by
  have h1 : zE x ∈ (La.filter mineP).map zE := List.mem_map_of_mem (List.mem_filter.2 ⟨hx, mineP_iff.2 ht⟩)
  rw [h.eq] at h1
  obtain ⟨y, hy, e⟩ := List.mem_map.1 h1
  exact ⟨y, hy, e.symm⟩
theorem Ap.tB (h : Ap La Lb) {y : Ls} (hy : y ∈ Lb) : y.t = [116] := by
  obtain ⟨x, _, ht, e⟩ := h.memB hy
  rw [← (zE_eq e).1]; exact ht
theorem Ap.len (h : Ap La Lb) : (La.filter mineP).length = Lb.length := by
  have := congrArg List.length h.eq
  simpa using this
theorem Ap.cnt (h : Ap La Lb) : (Lb.filter mineP).length = Lb.length := by
  rw [List.filter_eq_self.2 fun y hy => mineP_iff.2 (h.tB hy)]
theorem zE_filter (q : Ls → Bool) (hq : ∀ x, q (zE x) = q x) (L : List Ls) : (L.filter q).map zE = (L.map zE).filter q := by
  rw [List.filter_map]
  congr 2
  funext x; exact (hq x).symm
theorem Ap.filter (h : Ap La Lb) (q : Ls → Bool) (hq : ∀ x, q (zE x) = q x) : Ap (La.filter q) (Lb.filter q) := by
  refine ⟨h.asa.filter q, h.asb.filter q, ?_⟩
  rw [List.filter_filter, show (fun a => mineP a && q a) = (fun a => q a && mineP a) from funext fun a => Bool.and_comm _ _, ← List.filter_filter, zE_filter q hq, h.eq, zE_filter q hq]
theorem Ap.other (h : Ap La Lb) (q : Ls → Bool) (hq : ∀ x, x.t = [116] → q x = true) : Ap (La.filter q) Lb := by
  refine ⟨h.asa.filter q, h.asb, ?_⟩
  rw [← h.eq, List.filter_filter]
  congr 1
  refine List.filter_congr fun x _ => ?_
  cases hm : mineP x with
  | false => rfl
  | true => rw [hq x (mineP_iff.1 hm)]; rfl
theorem Ap.map (h : Ap La Lb) (f : Ls → Ls) (hf : ∀ x, zE (f x) = f (zE x)) (hk : ∀ x, kEq x (f x)) : Ap (La.map f) (Lb.map f) := by
  refine ⟨h.asa.mapK f hk, h.asb.mapK f hk, ?_⟩
  have e1 : mineP ∘ f = mineP := funext fun x => by show ((f x).t == _) = (x.t == _); rw [← (hk x).1]
  have e2 : zE ∘ f = f ∘ zE := funext fun x => hf x
  rw [List.filter_map, e1, List.map_map, e2, ← List.map_map, h.eq, List.map_map, List.map_map, e2]
def cancL (L : List Ls) (T A : List UInt8) (o : Int) : List Ls := L.filter fun x => !(decide (x.t = T ∧ x.a = A ∧ x.o = o))
theorem Ap.cancel (h : Ap La Lb) (A : List UInt8) (o : Int) {T : List UInt8} (_hT : T = [116]) : Ap (cancL La T A o) (cancL Lb T A o) := h.filter _ fun _ => rfl
theorem Ap.cancelO (h : Ap La Lb) {T : List UInt8} (hT : T ≠ [116]) (A : List UInt8) (o : Int) : Ap (cancL La T A o) Lb :=
  h.other _ fun x hx => by
    rw [decide_eq_false]; · rfl
    · rintro ⟨e, _⟩; exact hT (e.symm.trans hx)
theorem Ap.drop (h : Ap La Lb) (o : Int) : Ap (La.filter fun x => !(x.o == o)) (Lb.filter fun x => !(x.o == o)) := h.filter _ fun _ => rfl
theorem Ap.expire (h : Ap La Lb) (c n : Int) : Ap (La.filter fun x => !(decide (c ≤ tickV n - x.l))) (Lb.filter fun x => !(decide (c ≤ tickV n - x.l))) := h.filter _ fun _ => rfl
theorem Ap.beat (h : Ap La Lb) (o n : Int) : Ap (La.map fun y : Ls => if y.o == o then beatL n y else y) (Lb.map fun y : Ls => if y.o == o then beatL n y else y) :=
  h.map _ (fun x => by
    show zE (if x.o == o then beatL n x else x) = if (zE x).o == o then beatL n (zE x) else zE x
    show zE (if x.o == o then beatL n x else x) = if x.o == o then beatL n (zE x) else zE x
    split <;> rfl) fun x => by
    show kEq x (if x.o == o then beatL n x else x)
    split
    · exact beatL_key n x
    · exact ⟨rfl, rfl⟩
theorem ins_mem {x u : Ls} {L : List Ls} : u ∈ insL x false L ↔ u = x ∨ (u ∈ L ∧ ¬ kEq u x) := by
  rw [(insL_perm x L).mem_iff, List.mem_cons, remL, List.mem_filter]
  constructor
  · rintro (h | ⟨h1, h2⟩)
    · exact .inl h
    · exact .inr ⟨h1, fun e => by rw [decide_eq_true e] at h2; cases h2⟩
  · rintro (h | ⟨h1, h2⟩)
    · exact .inl h
    · exact .inr ⟨h1, by rw [decide_eq_false h2]; rfl⟩
theorem Ap.ins (h : Ap La Lb) {x y : Ls} (e : zE x = zE y) (ht : x.t = [116]) : Ap (insL x false La) (insL y false Lb) := by
  refine ⟨h.asa.ins x, h.asb.ins y, Asc.ext (((h.asa.ins x).filter _).mapK zE fun _ => ⟨rfl, rfl⟩) ((h.asb.ins y).mapK zE fun _ => ⟨rfl, rfl⟩) fun z => ?_⟩
  simp only [List.mem_map, List.mem_filter, ins_mem]
  have hk := zE_key e
  constructor
  · rintro ⟨u, ⟨hu | ⟨h1, h2⟩, hm⟩, rfl⟩
    · subst hu; exact ⟨y, .inl rfl, e.symm⟩
    · obtain ⟨v, hv, ev⟩ := h.memA h1 (mineP_iff.1 hm)
      exact ⟨v, .inr ⟨hv, fun k => h2 (kEq_trans (zE_key ev) (kEq_trans k (kEq_symm hk)))⟩, ev.symm⟩
  · rintro ⟨v, hv | ⟨h1, h2⟩, rfl⟩
    · subst hv; exact ⟨x, ⟨.inl rfl, mineP_iff.2 ht⟩, e⟩
    · obtain ⟨u, hu, hut, ev⟩ := h.memB h1
      exact ⟨u, ⟨.inr ⟨hu, fun k => h2 (kEq_trans (kEq_symm (zE_key ev)) (kEq_trans k hk))⟩, mineP_iff.2 hut⟩, ev⟩
theorem Ap.insO (h : Ap La Lb) {x : Ls} (ht : x.t ≠ [116]) : Ap (insL x false La) Lb := by
  refine ⟨h.asa.ins x, h.asb, ?_⟩
  rw [← h.eq]
  congr 1
  refine Asc.ext ((h.asa.ins x).filter _) (h.asa.filter _) fun u => ?_
  simp only [List.mem_filter, ins_mem]
  constructor
  · rintro ⟨hu | ⟨h1, _⟩, hm⟩
    · subst hu; exact absurd (mineP_iff.1 hm) ht
    · exact ⟨h1, hm⟩
  · rintro ⟨h1, hm⟩
    exact ⟨.inr ⟨h1, fun k => ht (k.1.symm.trans (mineP_iff.1 hm))⟩, hm⟩
end
def ownr (L : List Ls) (T A : List UInt8) : Option Int := (L.find? fun x => decide (x.t = T ∧ x.a = A)).map (·.o)
theorem ownr_yes {L : List Ls} (hL : Asc L) {x : Ls} (hx : x ∈ L) : ownr L x.t x.a = some x.o := by
  unfold ownr
  cases hf : L.find? fun y => decide (y.t = x.t ∧ y.a = x.a) with
  | none =>
    have := List.find?_eq_none.1 hf x hx
    simp at this
  | some y =>
    have h1 := List.find?_some hf
    have h2 := List.mem_of_find?_eq_some hf
    have h3 : kEq y x := of_decide_eq_true h1
    rw [hL.same h2 hx h3]; rfl
theorem ownr_no {L : List Ls} {T A : List UInt8} (hn : ∀ x ∈ L, ¬ (x.t = T ∧ x.a = A)) : ownr L T A = none := by
  unfold ownr
  rw [List.find?_eq_none.2 fun x hx => by rw [decide_eq_false (hn x hx)]; exact Bool.false_ne_true]
  rfl
theorem Ap.ownr {La Lb : List Ls} (h : Ap La Lb) {T : List UInt8} (hT : T = [116]) (A : List UInt8) : ownr La T A = ownr Lb T A := by
  by_cases hx : ∃ x ∈ La, x.t = T ∧ x.a = A
  · obtain ⟨x, hx, h1, h2⟩ := hx
    obtain ⟨y, hy, e⟩ := h.memA hx (h1.trans hT)
    have e2 := zE_eq e
    rw [← h1, ← h2, ownr_yes h.asa hx, e2.1, e2.2.1, ownr_yes h.asb hy, e2.2.2.1]
  · rw [ownr_no fun x hx' e => hx ⟨x, hx', e⟩, ownr_no fun y hy e => by
      obtain ⟨x, hx', _, ez⟩ := h.memB hy
      have e2 := zE_eq ez
      exact hx ⟨x, hx', e2.1.trans e.1, e2.2.1.trans e.2⟩]
def tkO (a b : Int) (L : List Ls) (T A : List UInt8) (o : Int) : Nat × Int :=
  if (nameN T && nameN A) = false then (17, -1) else match ownr L T A with
    | some w => if w = o then (9, -1) else (0, w)
    | none => if a ≤ ((L.filter (fun x => x.t == T)).length : Nat) then (16, -1) else if b ≤ (L.length : Nat) then (7, -1) else (0, -1)
def tkL (a b ep : Int) (L : List Ls) (T A : List UInt8) (o n : Int) : List Ls := if (tkO a b L T A o).1 = 0 then insL ⟨T, A, o, ep + 1, tickV n⟩ false L else L
def tkE (a b ep : Int) (L : List Ls) (T A : List UInt8) (o : Int) : Int := if (tkO a b L T A o).1 = 0 then ep + 1 else ep
def tkX (a b ep : Int) (L : List Ls) (T A : List UInt8) (o n : Int) : Ls := if (tkO a b L T A o).1 = 0 then ⟨T, A, o, ep + 1, tickV n⟩ else ⟨[], [], 0, 0, 0⟩
theorem tkE_in {a b ep : Int} {L : List Ls} {T A : List UInt8} {o : Int} : ep ≤ tkE a b ep L T A o ∧ tkE a b ep L T A o ≤ ep + 1 := by unfold tkE; split <;> omega
theorem ins_le (x : Ls) (L : List Ls) : (insL x false L).length ≤ L.length + 1 := by
  rw [(insL_perm x L).length_eq, List.length_cons]
  exact Nat.succ_le_succ (List.length_filter_le _ _)
theorem tkL_le {a b ep : Int} {L : List Ls} {T A : List UInt8} {o n : Int} : (tkL a b ep L T A o n).length ≤ L.length + 1 := by
  unfold tkL; split
  · exact ins_le _ _
  · omega
theorem Ap.tkO {a b : Int} {La Lb : List Ls} (h : Ap La Lb) {T : List UInt8} (hT : T = [116]) (A : List UInt8) (o : Int) (ha : (La.length : Int) < b) : tkO a b La T A o = tkO a b Lb T A o := by
  have hb : (Lb.length : Int) < b := by have h1 := h.len; have h2 := List.length_filter_le mineP La; omega
  unfold Go.Proofs.YticickigndgpcaaDoor.tkO
  rw [h.ownr hT A]
  split
  · rfl
  · split
    · rfl
    · have e1 : (La.filter (fun x => x.t == T)).length = (Lb.filter (fun x => x.t == T)).length := by subst hT; exact h.len.trans h.cnt.symm
      rw [e1, if_neg (show ¬ b ≤ ((La.length : Nat) : Int) by omega), if_neg (show ¬ b ≤ ((Lb.length : Nat) : Int) by omega)]
theorem Ap.take {a b epa epb : Int} {La Lb : List Ls} (h : Ap La Lb) {T : List UInt8} (hT : T = [116]) (A : List UInt8) (o n : Int) (ha : (La.length : Int) < b) : Ap (tkL a b epa La T A o n) (tkL a b epb Lb T A o n) := by
  unfold tkL
  rw [h.tkO hT A o ha]
  split
  · exact h.ins rfl hT
  · exact h
theorem Ap.takeO {a b epa : Int} {La Lb : List Ls} (h : Ap La Lb) {T : List UInt8} (hT : T ≠ [116]) (A : List UInt8) (o n : Int) : Ap (tkL a b epa La T A o n) Lb := by
  unfold tkL
  split
  · exact h.insO hT
  · exact h
def zN (L : List Ls) (k : Nat) : List Ls := (L.take k).map zE ++ L.drop k
theorem zN_len (L : List Ls) (k : Nat) : (zN L k).length = L.length := by
  unfold zN; rw [List.length_append, List.length_map, List.length_take, List.length_drop]; omega
theorem zN_at {L : List Ls} {k : Nat} (h : k < L.length) : (zN L k).getD k default = L.getD k default := by
  unfold zN
  rw [List.getD_eq_getElem?_getD, List.getElem?_append_right (by rw [List.length_map, List.length_take]; omega), List.length_map, List.length_take, Nat.min_eq_left (Nat.le_of_lt h), Nat.sub_self, List.getElem?_drop, Nat.add_zero, List.getD_eq_getElem?_getD]
theorem zN_set {L : List Ls} {k : Nat} (h : k < L.length) : (zN L k).set k (zE (L.getD k default)) = zN L (k + 1) := by
  unfold zN
  rw [List.set_append_right _ _ (by rw [List.length_map, List.length_take]; omega), List.length_map, List.length_take, Nat.min_eq_left (Nat.le_of_lt h), Nat.sub_self, drop_cons h, List.set_cons_zero, take_snoc h, List.map_append, List.append_assoc]
  rfl
theorem zE_at {La Lb : List Ls} (h : (La.filter mineP).map zE = Lb.map zE) {k : Nat} (hk : k < Lb.length) : zE ((La.filter mineP).getD k default) = zE (Lb.getD k default) := by
  have h1 : ((La.filter mineP).map zE)[k]? = (Lb.map zE)[k]? := by rw [h]
  have hl : (La.filter mineP).length = Lb.length := by simpa using congrArg List.length h
  rw [List.getElem?_map, List.getElem?_map, List.getElem?_eq_getElem hk, List.getElem?_eq_getElem (by omega : k < (La.filter mineP).length)] at h1
  rw [List.getD_eq_getElem?_getD, List.getD_eq_getElem?_getD, List.getElem?_eq_getElem hk, List.getElem?_eq_getElem (by omega : k < (La.filter mineP).length)]
  exact Option.some.inj h1
end Go.Proofs.YticickigndgpcaaDoor
namespace Go.Proofs.YticickigndgpcaaDoor
open Go.RowKit
theorem Meets.weakV {P : Program} {f : FuncId} {args : List AV} {H0 H1 : List (Nat × Option ABlk)} {v v' : AV} (h : Meets P f args H0 v H1) (hv : ∀ E y, Rel E v y → Rel E v' y) : Meets P f args H0 v' H1 := by
  intro E S n0 vals w h1 h2 h3 h4 h5 h6 h7
  refine (h E S n0 vals w h1 h2 h3 h4 h5 h6 h7).mono fun e w' hh => ?_
  obtain ⟨y, E', g1, g2, g3, g4⟩ := hh
  exact ⟨y, E', g1, g2, hv E' y g3, g4⟩
theorem Meets.holeV {P : Program} {f : FuncId} {args : List AV} {H0 H1 : List (Nat × Option ABlk)} {v : AV} (h : Meets P f args H0 v H1) : Meets P f args H0 .hole H1 := h.weakV fun _ _ _ => .hole _
theorem tup_last {u v x x' : AV} (hx : ∀ E y, Rel E x y → Rel E x' y) (E : Emb) (y : Value) (h : Rel E (.tup [u, v, x]) y) : Rel E (.tup [u, v, x']) y := by
  obtain ⟨ds, rfl, h2, h4⟩ := h.tup_inv
  refine .tup _ _ h2 fun i a b ha hb => ?_
  match i, ha, hb with
  | 0, ha, hb => exact h4 0 a b ha hb
  | 1, ha, hb => exact h4 1 a b ha hb
  | 2, ha, hb => injection ha with ha; subst ha; exact hx E b (h4 2 x b rfl hb)
  | n + 3, ha, _ => simp at ha
theorem nil_errV (t : Nat) (o : Nat × Nat) (E : Emb) (y : Value) (h : Rel E (.val .nilIface) y) : Rel E (.err t 0 o) y := by rw [h.val_inv]; exact .err0 t o
set_option maxRecDepth 100000 in
theorem cancYH_ev (a b c ep : Int) {M : List (Ls × Nat)} {ck : Nat} {L : List Ls} (h : MI M ck L) {x : Ls} (hx : x ∈ L) (w : Int) (hw : x.o = w) (eo : Nat → Nat × Nat)  : Meets Tryd.prog 21 [.ptr 500 0, .str x.t, .str x.a, .i64 w] [(500, some ⟨.agg [.i64 a, .i64 b, .i64 c, .mp 501, .i64 ep], 68, false⟩), (501, some ⟨mpV (M) (ck), 0, true⟩), (3, some ⟨.agg [.err 155 (1) (offE eo (1))], errT, false⟩), (4, some ⟨.agg [.err 155 (2) (offE eo (2))], errT, false⟩), (5, some ⟨.agg [.err 155 (3) (offE eo (3))], errT, false⟩), (6, some ⟨.agg [.err 155 (4) (offE eo (4))], errT, false⟩), (7, some ⟨.agg [.err 155 (5) (offE eo (5))], errT, false⟩), (8, some ⟨.agg [.err 155 (6) (offE eo (6))], errT, false⟩), (9, some ⟨.agg [.err 155 (7) (offE eo (7))], errT, false⟩), (2, some ⟨.agg [.err 155 (8) (offE eo (8))], errT, false⟩), (1, some ⟨.agg [.err 155 (9) (offE eo (9))], errT, false⟩), (10, some ⟨.agg [.err 155 (10) (offE eo (10))], errT, false⟩), (11, some ⟨.agg [.err 155 (11) (offE eo (11))], errT, false⟩), (12, some ⟨.agg [.err 155 (12) (offE eo (12))], errT, false⟩), (13, some ⟨.agg [.err 155 (13) (offE eo (13))], errT, false⟩), (14, some ⟨.agg [.err 155 (14) (offE eo (14))], errT, false⟩), (15, some ⟨.agg [.err 155 (15) (offE eo (15))], errT, false⟩), (16, some ⟨.agg [.err 155 (16) (offE eo (16))], errT, false⟩), (0, some ⟨.agg [.err 155 (17) (offE eo (17))], errT, false⟩), (17, some ⟨.agg [.err 155 (18) (offE eo (18))], errT, false⟩), (18, some ⟨.agg [.err 155 (19) (offE eo (19))], errT, false⟩), (19, some ⟨.agg [.err 155 (20) (offE eo (20))], errT, false⟩), (401, some ⟨.agg [], errT, false⟩), (402, some ⟨.agg [], errT, false⟩), (403, some ⟨.agg [], errT, false⟩), (404, some ⟨.agg [], errT, false⟩), (405, some ⟨.agg [], errT, false⟩), (406, some ⟨.agg [], errT, false⟩), (407, some ⟨.agg [], errT, false⟩), (408, some ⟨.agg [], errT, false⟩), (409, some ⟨.agg [], errT, false⟩), (410, some ⟨.agg [], errT, false⟩), (411, some ⟨.agg [], errT, false⟩), (412, some ⟨.agg [], errT, false⟩), (413, some ⟨.agg [], errT, false⟩), (414, some ⟨.agg [], errT, false⟩), (415, some ⟨.agg [], errT, false⟩), (416, some ⟨.agg [], errT, false⟩), (417, some ⟨.agg [], errT, false⟩), (418, some ⟨.agg [], errT, false⟩), (419, some ⟨.agg [], errT, false⟩), (420, some ⟨.agg [], errT, false⟩)] (.tup [lsV x, .val .nilIface]) [(501, some ⟨mpV (delM M x) ck, 0, true⟩)] := by
 refine meets_of_ev (nt := 33) Tryd.func21 rfl rfl (Nat.le_of_ble_eq_true rfl) ?_
 refine .seq ?_
 refine .region ?_
 refine .a (op_allocRow zero45 rel_zero45 rfl) trivial rfl ?_
 refine .q (op_assign rfl) trivial rfl ?_
 refine .nil ?_
 show Ev _ _ _ _ _
 refine .seq ?_
 refine .region ?_
 refine .q (op_move rfl) trivial rfl ?_
 refine .q (op_move rfl) trivial rfl ?_
 refine .q (op_move rfl) trivial rfl ?_
 refine .q (op_call (U := []) [(500, 500), (501, 501)] [] (findY_ev a b c ep h hx) Tryd.func20 (by kernel_rfl) rfl rfl rfl (⟨⟨_, rfl, rfl, rfl⟩, ⟨_, rfl, rfl, rfl⟩, ⟨_, rfl, rfl, rfl⟩, trivial⟩) (⟨⟨_, _, rfl, rfl, rfl, rfl, (fun h => by cases h), rfl⟩, ⟨_, _, rfl, rfl, rfl, rfl, (fun h => by cases h), rfl⟩, trivial⟩) (trivial) (⟨(fun h => by cases h), (fun h => by cases h), trivial⟩) rfl) trivial rfl ?_
 refine .q (op_move rfl) trivial rfl ?_
 refine .q (op_extract rfl rfl) trivial rfl ?_
 refine .q (op_extract rfl rfl) trivial rfl ?_
 refine .a (op_allocRow zero45 rel_zero45 rfl) trivial rfl ?_
 refine .w (op_storeRow (by kernel_rfl) rfl rfl rfl rfl rfl (rfl) (rfl)) trivial rfl ?_
 refine .q (op_assign rfl) trivial rfl ?_
 refine .nil ?_
 show Ev _ _ _ _ _
 refine .seq ?_
 refine .seq ?_
 refine .region ?_
 refine .q (op_move rfl) trivial rfl ?_
 refine .asR (.err 155 0 (0, 0)) (nil_err _ _) ?_
 refine .q (op_eqErrNil (e := 0) Tryd.underlying47 rfl rfl) trivial rfl ?_
 refine .q (op_move rfl) trivial rfl ?_
 refine .know (b' := false) (rfl) ?_
 refine .q (op_fieldAddr (m := 0) Tryd.underlying45 rfl (by kernel_rfl) rfl) ⟨_, rfl, rfl⟩ rfl ?_
 refine .as (.ptr 1008 2) rfl ?_
 refine .q (op_load Tryd.underlying3 rfl rfl rfl rfl (by show 2 < 5; decide)) ⟨_, rfl, rfl⟩ rfl ?_
 refine .q (op_move rfl) ⟨_, rfl, rfl⟩ rfl ?_
 refine .q (op_cmpI rfl rfl rfl) ⟨_, rfl, rfl⟩ rfl ?_
 refine .q (op_pick_false rfl rfl rfl) trivial rfl ?_
 refine .nil ?_
 show Ev _ _ _ _ _
 refine .cond_false rfl (by show (x.o != w) = false; rw [hw]; simp) ?_
 refine .skip ?_
 show Ev _ _ _ _ _
 refine .seq ?_
 refine .region ?_
 refine .q (op_move rfl) trivial rfl ?_
 refine .q (op_loadRow Tryd.underlying45 rfl (by kernel_rfl) rfl rfl rfl (rfl)) trivial rfl ?_
 refine .a (op_call (U := [(501, some ⟨mpV (delM M x) ck, 0, true⟩)]) [(500, 500), (501, 501)] [] (remove_ev a b c ep h hx) Tryd.func41 (by kernel_rfl) rfl rfl rfl (⟨⟨_, rfl, rfl, rfl⟩, ⟨_, rfl, rfl, rfl⟩, trivial⟩) (⟨⟨_, _, rfl, rfl, rfl, rfl, (fun h => by cases h), rfl⟩, ⟨_, _, rfl, rfl, rfl, rfl, id, rfl⟩, trivial⟩) (⟨⟨501, _, rfl, rfl, rfl, rfl, .inr ⟨rfl, _, rfl, rfl⟩⟩, trivial⟩) (⟨(fun h => by cases h), (fun _ => ⟨501, _, rfl, rfl⟩), trivial⟩) rfl) trivial rfl ?_
 refine .nil ?_
 show Ev _ _ _ _ _
 refine .seq ?_
 refine .region ?_
 refine .q (op_loadRow Tryd.underlying45 rfl (by kernel_rfl) rfl rfl rfl (rfl)) trivial rfl ?_
 refine .w (op_storeRow (by kernel_rfl) rfl rfl rfl rfl rfl (rfl) (rfl)) trivial rfl ?_
 refine .q (op_assign rfl) trivial rfl ?_
 refine .nil ?_
 show Ev _ _ _ _ _
 refine .ret ?_
 show RetOk _ _ _ _ _ _ _
 exact retc2 rfl (.inl rfl) ⟨_, _, _, _, rfl, rfl, rfl, rfl, rfl, Tryd.underlying45, rfl, sz45⟩ rfl ⟨rfl, trivial⟩
set_option maxRecDepth 100000 in
theorem cancOH_ev (a b c ep : Int) {M : List (Ls × Nat)} {ck : Nat} {L : List Ls} (h : MI M ck L) {x : Ls} (hx : x ∈ L) (w : Int) (hw : x.o ≠ w) (eo : Nat → Nat × Nat)  : Meets Tryd.prog 21 [.ptr 500 0, .str x.t, .str x.a, .i64 w] [(500, some ⟨.agg [.i64 a, .i64 b, .i64 c, .mp 501, .i64 ep], 68, false⟩), (501, some ⟨mpV (M) (ck), 0, true⟩), (3, some ⟨.agg [.err 155 (1) (offE eo (1))], errT, false⟩), (4, some ⟨.agg [.err 155 (2) (offE eo (2))], errT, false⟩), (5, some ⟨.agg [.err 155 (3) (offE eo (3))], errT, false⟩), (6, some ⟨.agg [.err 155 (4) (offE eo (4))], errT, false⟩), (7, some ⟨.agg [.err 155 (5) (offE eo (5))], errT, false⟩), (8, some ⟨.agg [.err 155 (6) (offE eo (6))], errT, false⟩), (9, some ⟨.agg [.err 155 (7) (offE eo (7))], errT, false⟩), (2, some ⟨.agg [.err 155 (8) (offE eo (8))], errT, false⟩), (1, some ⟨.agg [.err 155 (9) (offE eo (9))], errT, false⟩), (10, some ⟨.agg [.err 155 (10) (offE eo (10))], errT, false⟩), (11, some ⟨.agg [.err 155 (11) (offE eo (11))], errT, false⟩), (12, some ⟨.agg [.err 155 (12) (offE eo (12))], errT, false⟩), (13, some ⟨.agg [.err 155 (13) (offE eo (13))], errT, false⟩), (14, some ⟨.agg [.err 155 (14) (offE eo (14))], errT, false⟩), (15, some ⟨.agg [.err 155 (15) (offE eo (15))], errT, false⟩), (16, some ⟨.agg [.err 155 (16) (offE eo (16))], errT, false⟩), (0, some ⟨.agg [.err 155 (17) (offE eo (17))], errT, false⟩), (17, some ⟨.agg [.err 155 (18) (offE eo (18))], errT, false⟩), (18, some ⟨.agg [.err 155 (19) (offE eo (19))], errT, false⟩), (19, some ⟨.agg [.err 155 (20) (offE eo (20))], errT, false⟩), (401, some ⟨.agg [], errT, false⟩), (402, some ⟨.agg [], errT, false⟩), (403, some ⟨.agg [], errT, false⟩), (404, some ⟨.agg [], errT, false⟩), (405, some ⟨.agg [], errT, false⟩), (406, some ⟨.agg [], errT, false⟩), (407, some ⟨.agg [], errT, false⟩), (408, some ⟨.agg [], errT, false⟩), (409, some ⟨.agg [], errT, false⟩), (410, some ⟨.agg [], errT, false⟩), (411, some ⟨.agg [], errT, false⟩), (412, some ⟨.agg [], errT, false⟩), (413, some ⟨.agg [], errT, false⟩), (414, some ⟨.agg [], errT, false⟩), (415, some ⟨.agg [], errT, false⟩), (416, some ⟨.agg [], errT, false⟩), (417, some ⟨.agg [], errT, false⟩), (418, some ⟨.agg [], errT, false⟩), (419, some ⟨.agg [], errT, false⟩), (420, some ⟨.agg [], errT, false⟩)] (.tup [.agg [.str [], .str [], .i64 0, .i64 0, .i64 0], .err 155 (8) (offE eo (8))]) [(501, some ⟨mpV M ck, 0, true⟩)] := by
 refine meets_of_ev (nt := 33) Tryd.func21 rfl rfl (Nat.le_of_ble_eq_true rfl) ?_
 refine .seq ?_
 refine .region ?_
 refine .a (op_allocRow zero45 rel_zero45 rfl) trivial rfl ?_
 refine .q (op_assign rfl) trivial rfl ?_
 refine .nil ?_
 show Ev _ _ _ _ _
 refine .seq ?_
 refine .region ?_
 refine .q (op_move rfl) trivial rfl ?_
 refine .q (op_move rfl) trivial rfl ?_
 refine .q (op_move rfl) trivial rfl ?_
 refine .q (op_call (U := []) [(500, 500), (501, 501)] [] (findY_ev a b c ep h hx) Tryd.func20 (by kernel_rfl) rfl rfl rfl (⟨⟨_, rfl, rfl, rfl⟩, ⟨_, rfl, rfl, rfl⟩, ⟨_, rfl, rfl, rfl⟩, trivial⟩) (⟨⟨_, _, rfl, rfl, rfl, rfl, (fun h => by cases h), rfl⟩, ⟨_, _, rfl, rfl, rfl, rfl, (fun h => by cases h), rfl⟩, trivial⟩) (trivial) (⟨(fun h => by cases h), (fun h => by cases h), trivial⟩) rfl) trivial rfl ?_
 refine .q (op_move rfl) trivial rfl ?_
 refine .q (op_extract rfl rfl) trivial rfl ?_
 refine .q (op_extract rfl rfl) trivial rfl ?_
 refine .a (op_allocRow zero45 rel_zero45 rfl) trivial rfl ?_
 refine .w (op_storeRow (by kernel_rfl) rfl rfl rfl rfl rfl (rfl) (rfl)) trivial rfl ?_
 refine .q (op_assign rfl) trivial rfl ?_
 refine .nil ?_
 show Ev _ _ _ _ _
 refine .seq ?_
 refine .seq ?_
 refine .region ?_
 refine .q (op_move rfl) trivial rfl ?_
 refine .asR (.err 155 0 (0, 0)) (nil_err _ _) ?_
 refine .q (op_eqErrNil (e := 0) Tryd.underlying47 rfl rfl) trivial rfl ?_
 refine .q (op_move rfl) trivial rfl ?_
 refine .know (b' := false) (rfl) ?_
 refine .q (op_fieldAddr (m := 0) Tryd.underlying45 rfl (by kernel_rfl) rfl) ⟨_, rfl, rfl⟩ rfl ?_
 refine .as (.ptr 1008 2) rfl ?_
 refine .q (op_load Tryd.underlying3 rfl rfl rfl rfl (by show 2 < 5; decide)) ⟨_, rfl, rfl⟩ rfl ?_
 refine .q (op_move rfl) ⟨_, rfl, rfl⟩ rfl ?_
 refine .q (op_cmpI rfl rfl rfl) ⟨_, rfl, rfl⟩ rfl ?_
 refine .q (op_pick_false rfl rfl rfl) trivial rfl ?_
 refine .nil ?_
 show Ev _ _ _ _ _
 refine .cond_true rfl (by show (x.o != w) = true; simpa using hw) ?_
 refine .seq ?_
 refine .drawnF [[], [], [0], [0, 1, 2]] [1, 2] [] [(1, ([2], [])), (2, ([], [1000]))] (by kernel_rfl) (by kernel_rfl) rfl ?_
 show DK _ [0, 1, 2, 3] _ _ _
 refine .q rfl (op_buildS (r := .agg _) Tryd.underlying45 rfl zero45 rel_zero45 rfl rfl rfl rfl) trivial ?_
 refine .q rfl (op_load Tryd.underlying47 rfl rfl rfl rfl (by first | omega | (simp only [AV.len]; omega) | (simp only [AV.len, List.length_set]; omega) | assumption | (simp [AV.len]; done))) trivial ?_
 refine .w rfl (op_storeRow (by kernel_rfl) rfl rfl rfl rfl rfl (rfl) (rfl)) trivial rfl rfl ?_
 refine .q rfl (op_assign rfl) trivial ?_
 refine .nil ?_
 show Ev _ _ _ _ _
 refine .ret ?_
 show RetOk _ _ _ _ _ _ _
 exact retc2 rfl (.inl rfl) ⟨_, _, _, _, rfl, rfl, rfl, rfl, rfl, Tryd.underlying45, rfl, sz45⟩ rfl ⟨rfl, trivial⟩
set_option maxRecDepth 100000 in
theorem cancNH_ev (a b c ep : Int) {M : List (Ls × Nat)} {ck : Nat} {L : List Ls} (h : MI M ck L) {t al : List UInt8} (ht : t.length ≤ maxLen) (ha : al.length ≤ maxLen) (hn : ∀ x ∈ L, ¬ (x.t = t ∧ x.a = al)) (w : Int) (eo : Nat → Nat × Nat)  : Meets Tryd.prog 21 [.ptr 500 0, .str t, .str al, .i64 w] [(500, some ⟨.agg [.i64 a, .i64 b, .i64 c, .mp 501, .i64 ep], 68, false⟩), (501, some ⟨mpV (M) (ck), 0, true⟩), (3, some ⟨.agg [.err 155 (1) (offE eo (1))], errT, false⟩), (4, some ⟨.agg [.err 155 (2) (offE eo (2))], errT, false⟩), (5, some ⟨.agg [.err 155 (3) (offE eo (3))], errT, false⟩), (6, some ⟨.agg [.err 155 (4) (offE eo (4))], errT, false⟩), (7, some ⟨.agg [.err 155 (5) (offE eo (5))], errT, false⟩), (8, some ⟨.agg [.err 155 (6) (offE eo (6))], errT, false⟩), (9, some ⟨.agg [.err 155 (7) (offE eo (7))], errT, false⟩), (2, some ⟨.agg [.err 155 (8) (offE eo (8))], errT, false⟩), (1, some ⟨.agg [.err 155 (9) (offE eo (9))], errT, false⟩), (10, some ⟨.agg [.err 155 (10) (offE eo (10))], errT, false⟩), (11, some ⟨.agg [.err 155 (11) (offE eo (11))], errT, false⟩), (12, some ⟨.agg [.err 155 (12) (offE eo (12))], errT, false⟩), (13, some ⟨.agg [.err 155 (13) (offE eo (13))], errT, false⟩), (14, some ⟨.agg [.err 155 (14) (offE eo (14))], errT, false⟩), (15, some ⟨.agg [.err 155 (15) (offE eo (15))], errT, false⟩), (16, some ⟨.agg [.err 155 (16) (offE eo (16))], errT, false⟩), (0, some ⟨.agg [.err 155 (17) (offE eo (17))], errT, false⟩), (17, some ⟨.agg [.err 155 (18) (offE eo (18))], errT, false⟩), (18, some ⟨.agg [.err 155 (19) (offE eo (19))], errT, false⟩), (19, some ⟨.agg [.err 155 (20) (offE eo (20))], errT, false⟩), (401, some ⟨.agg [], errT, false⟩), (402, some ⟨.agg [], errT, false⟩), (403, some ⟨.agg [], errT, false⟩), (404, some ⟨.agg [], errT, false⟩), (405, some ⟨.agg [], errT, false⟩), (406, some ⟨.agg [], errT, false⟩), (407, some ⟨.agg [], errT, false⟩), (408, some ⟨.agg [], errT, false⟩), (409, some ⟨.agg [], errT, false⟩), (410, some ⟨.agg [], errT, false⟩), (411, some ⟨.agg [], errT, false⟩), (412, some ⟨.agg [], errT, false⟩), (413, some ⟨.agg [], errT, false⟩), (414, some ⟨.agg [], errT, false⟩), (415, some ⟨.agg [], errT, false⟩), (416, some ⟨.agg [], errT, false⟩), (417, some ⟨.agg [], errT, false⟩), (418, some ⟨.agg [], errT, false⟩), (419, some ⟨.agg [], errT, false⟩), (420, some ⟨.agg [], errT, false⟩)] (.tup [.agg [.str [], .str [], .i64 0, .i64 0, .i64 0], .err 155 (8) (offE eo (8))]) [(501, some ⟨mpV M ck, 0, true⟩)] := by
 refine meets_of_ev (nt := 33) Tryd.func21 rfl rfl (Nat.le_of_ble_eq_true rfl) ?_
 refine .seq ?_
 refine .region ?_
 refine .a (op_allocRow zero45 rel_zero45 rfl) trivial rfl ?_
 refine .q (op_assign rfl) trivial rfl ?_
 refine .nil ?_
 show Ev _ _ _ _ _
 refine .seq ?_
 refine .region ?_
 refine .q (op_move rfl) trivial rfl ?_
 refine .q (op_move rfl) trivial rfl ?_
 refine .q (op_move rfl) trivial rfl ?_
 refine .q (op_call (U := []) [(500, 500), (501, 501)] [] (findN_ev a b c ep h ht ha hn eo) Tryd.func20 (by kernel_rfl) rfl rfl rfl (⟨⟨_, rfl, rfl, rfl⟩, ⟨_, rfl, rfl, rfl⟩, ⟨_, rfl, rfl, rfl⟩, trivial⟩) (⟨⟨_, _, rfl, rfl, rfl, rfl, (fun h => by cases h), rfl⟩, ⟨_, _, rfl, rfl, rfl, rfl, (fun h => by cases h), rfl⟩, ⟨_, _, rfl, rfl, rfl, rfl, (fun h => by cases h), rfl⟩, trivial⟩) (trivial) (⟨(fun h => by cases h), (fun h => by cases h), (fun h => by cases h), trivial⟩) rfl) trivial rfl ?_
 refine .q (op_move rfl) trivial rfl ?_
 refine .q (op_extract rfl rfl) trivial rfl ?_
 refine .q (op_extract rfl rfl) trivial rfl ?_
 refine .a (op_allocRow zero45 rel_zero45 rfl) trivial rfl ?_
 refine .w (op_storeRow (by kernel_rfl) rfl rfl rfl rfl rfl (rfl) (rfl)) trivial rfl ?_
 refine .q (op_assign rfl) trivial rfl ?_
 refine .nil ?_
 show Ev _ _ _ _ _
 refine .seq ?_
 refine .seq ?_
 refine .region ?_
 refine .q (op_move rfl) trivial rfl ?_
 refine .q (op_eqErrNil (e := 8) Tryd.underlying47 rfl rfl) trivial rfl ?_
 refine .q (op_move rfl) trivial rfl ?_
 refine .know (b' := true) (rfl) ?_
 refine .no ⟨_, rfl, rfl⟩ rfl ?_
 refine .no ⟨_, rfl, rfl⟩ rfl ?_
 refine .no ⟨_, rfl, rfl⟩ rfl ?_
 refine .no ⟨_, rfl, rfl⟩ rfl ?_
 refine .q (op_pick_true rfl rfl rfl) trivial rfl ?_
 refine .nil ?_
 show Ev _ _ _ _ _
 refine .cond_true rfl rfl ?_
 refine .seq ?_
 refine .drawnF [[], [], [0], [0, 1, 2]] [1, 2] [] [(1, ([2], [])), (2, ([], [1000]))] (by kernel_rfl) (by kernel_rfl) rfl ?_
 show DK _ [0, 1, 2, 3] _ _ _
 refine .q rfl (op_buildS (r := .agg _) Tryd.underlying45 rfl zero45 rel_zero45 rfl rfl rfl rfl) trivial ?_
 refine .q rfl (op_load Tryd.underlying47 rfl rfl rfl rfl (by first | omega | (simp only [AV.len]; omega) | (simp only [AV.len, List.length_set]; omega) | assumption | (simp [AV.len]; done))) trivial ?_
 refine .w rfl (op_storeRow (by kernel_rfl) rfl rfl rfl rfl rfl (rfl) (rfl)) trivial rfl rfl ?_
 refine .q rfl (op_assign rfl) trivial ?_
 refine .nil ?_
 show Ev _ _ _ _ _
 refine .ret ?_
 show RetOk _ _ _ _ _ _ _
 exact retc2 rfl (.inl rfl) ⟨_, _, _, _, rfl, rfl, rfl, rfl, rfl, Tryd.underlying45, rfl, sz45⟩ rfl ⟨rfl, trivial⟩
set_option maxRecDepth 100000 in
theorem tkV1_ev (a b c ep : Int) {M : List (Ls × Nat)} {ck : Nat} {L : List Ls} (h : MI M ck L) (t al : List UInt8) (w now : Int) (eo : Nat → Nat × Nat) (ht : t.length ≤ 9223372036854775000) (ha : al.length ≤ 9223372036854775000) (hvt : nameN t = false)  : Meets Tryd.prog 19 [.ptr 500 0, .str t, .str al, .i64 w, .i64 now] [(500, some ⟨.agg [.i64 a, .i64 b, .i64 c, .mp 501, .i64 ep], 68, true⟩), (501, some ⟨mpV (M) (ck), 0, true⟩), (3, some ⟨.agg [.err 155 (1) (offE eo (1))], errT, false⟩), (4, some ⟨.agg [.err 155 (2) (offE eo (2))], errT, false⟩), (5, some ⟨.agg [.err 155 (3) (offE eo (3))], errT, false⟩), (6, some ⟨.agg [.err 155 (4) (offE eo (4))], errT, false⟩), (7, some ⟨.agg [.err 155 (5) (offE eo (5))], errT, false⟩), (8, some ⟨.agg [.err 155 (6) (offE eo (6))], errT, false⟩), (9, some ⟨.agg [.err 155 (7) (offE eo (7))], errT, false⟩), (2, some ⟨.agg [.err 155 (8) (offE eo (8))], errT, false⟩), (1, some ⟨.agg [.err 155 (9) (offE eo (9))], errT, false⟩), (10, some ⟨.agg [.err 155 (10) (offE eo (10))], errT, false⟩), (11, some ⟨.agg [.err 155 (11) (offE eo (11))], errT, false⟩), (12, some ⟨.agg [.err 155 (12) (offE eo (12))], errT, false⟩), (13, some ⟨.agg [.err 155 (13) (offE eo (13))], errT, false⟩), (14, some ⟨.agg [.err 155 (14) (offE eo (14))], errT, false⟩), (15, some ⟨.agg [.err 155 (15) (offE eo (15))], errT, false⟩), (16, some ⟨.agg [.err 155 (16) (offE eo (16))], errT, false⟩), (0, some ⟨.agg [.err 155 (17) (offE eo (17))], errT, false⟩), (17, some ⟨.agg [.err 155 (18) (offE eo (18))], errT, false⟩), (18, some ⟨.agg [.err 155 (19) (offE eo (19))], errT, false⟩), (19, some ⟨.agg [.err 155 (20) (offE eo (20))], errT, false⟩), (401, some ⟨.agg [], errT, false⟩), (402, some ⟨.agg [], errT, false⟩), (403, some ⟨.agg [], errT, false⟩), (404, some ⟨.agg [], errT, false⟩), (405, some ⟨.agg [], errT, false⟩), (406, some ⟨.agg [], errT, false⟩), (407, some ⟨.agg [], errT, false⟩), (408, some ⟨.agg [], errT, false⟩), (409, some ⟨.agg [], errT, false⟩), (410, some ⟨.agg [], errT, false⟩), (411, some ⟨.agg [], errT, false⟩), (412, some ⟨.agg [], errT, false⟩), (413, some ⟨.agg [], errT, false⟩), (414, some ⟨.agg [], errT, false⟩), (415, some ⟨.agg [], errT, false⟩), (416, some ⟨.agg [], errT, false⟩), (417, some ⟨.agg [], errT, false⟩), (418, some ⟨.agg [], errT, false⟩), (419, some ⟨.agg [], errT, false⟩), (420, some ⟨.agg [], errT, false⟩)] (.tup [.agg [.str [], .str [], .i64 0, .i64 0, .i64 0], .i64 (-1), .err 155 (17) (offE eo (17))]) [(500, some ⟨.agg [.i64 a, .i64 b, .i64 c, .mp 501, .i64 ep], 68, true⟩), (501, some ⟨mpV M ck, 0, true⟩)] := by
 refine meets_of_ev (nt := 74) Tryd.func19 rfl rfl (Nat.le_of_ble_eq_true rfl) ?_
 refine .seq ?_
 refine .region ?_
 refine .a (op_allocRow zero45 rel_zero45 rfl) trivial rfl ?_
 refine .q (op_assign rfl) trivial rfl ?_
 refine .q (op_assign rfl) trivial rfl ?_
 refine .nil ?_
 show Ev _ _ _ _ _
 refine .seq ?_
 refine .seq ?_
 refine .region ?_
 refine .q (op_move rfl) trivial rfl ?_
 refine .q (op_call (U := []) [] [] (nameN_ev (t) ht) Tryd.func9 (by kernel_rfl) rfl rfl rfl (⟨⟨_, rfl, rfl, rfl⟩, trivial⟩) (trivial) (trivial) (trivial) rfl) trivial rfl ?_
 refine .q (op_notB rfl) trivial rfl ?_
 refine .q (op_move rfl) trivial rfl ?_
 refine .know (b' := true) (by show (!nameN _) = true; rw [hvt]; rfl) ?_
 refine .no ⟨_, rfl, rfl⟩ rfl ?_
 refine .no ⟨_, rfl, rfl⟩ rfl ?_
 refine .no ⟨_, rfl, rfl⟩ rfl ?_
 refine .q (op_pick_true rfl rfl rfl) trivial rfl ?_
 refine .nil ?_
 show Ev _ _ _ _ _
 refine .cond_true rfl rfl ?_
 refine .seq ?_
 refine .drawnF [[], [], [0], [0, 2], [0, 1, 2, 3]] [1, 2] [] [(1, ([0], [])), (2, ([], [1000]))] (by kernel_rfl) (by kernel_rfl) rfl ?_
 show DK _ [0, 1, 2, 3, 4] _ _ _
 refine .q rfl (op_buildS (r := .agg _) Tryd.underlying45 rfl zero45 rel_zero45 rfl rfl rfl rfl) trivial ?_
 refine .q rfl (op_load Tryd.underlying47 rfl rfl rfl rfl (by first | omega | (simp only [AV.len]; omega) | (simp only [AV.len, List.length_set]; omega) | assumption | (simp [AV.len]; done))) trivial ?_
 refine .w rfl (op_storeRow (by kernel_rfl) rfl rfl rfl rfl rfl (rfl) (rfl)) trivial rfl rfl ?_
 refine .q rfl (op_assign rfl) trivial ?_
 refine .q rfl (op_assign rfl) trivial ?_
 refine .nil ?_
 show Ev _ _ _ _ _
 refine .ret ?_
 show RetOk _ _ _ _ _ _ _
 exact retc3 rfl (.inl rfl) ⟨_, _, _, _, rfl, rfl, rfl, rfl, rfl, Tryd.underlying45, rfl, sz45⟩ rfl rfl ⟨rfl, rfl, trivial⟩
set_option maxRecDepth 100000 in
theorem tkV2_ev (a b c ep : Int) {M : List (Ls × Nat)} {ck : Nat} {L : List Ls} (h : MI M ck L) (t al : List UInt8) (w now : Int) (eo : Nat → Nat × Nat) (ht : t.length ≤ 9223372036854775000) (ha : al.length ≤ 9223372036854775000) (hvt : nameN t = true) (hva : nameN al = false)  : Meets Tryd.prog 19 [.ptr 500 0, .str t, .str al, .i64 w, .i64 now] [(500, some ⟨.agg [.i64 a, .i64 b, .i64 c, .mp 501, .i64 ep], 68, true⟩), (501, some ⟨mpV (M) (ck), 0, true⟩), (3, some ⟨.agg [.err 155 (1) (offE eo (1))], errT, false⟩), (4, some ⟨.agg [.err 155 (2) (offE eo (2))], errT, false⟩), (5, some ⟨.agg [.err 155 (3) (offE eo (3))], errT, false⟩), (6, some ⟨.agg [.err 155 (4) (offE eo (4))], errT, false⟩), (7, some ⟨.agg [.err 155 (5) (offE eo (5))], errT, false⟩), (8, some ⟨.agg [.err 155 (6) (offE eo (6))], errT, false⟩), (9, some ⟨.agg [.err 155 (7) (offE eo (7))], errT, false⟩), (2, some ⟨.agg [.err 155 (8) (offE eo (8))], errT, false⟩), (1, some ⟨.agg [.err 155 (9) (offE eo (9))], errT, false⟩), (10, some ⟨.agg [.err 155 (10) (offE eo (10))], errT, false⟩), (11, some ⟨.agg [.err 155 (11) (offE eo (11))], errT, false⟩), (12, some ⟨.agg [.err 155 (12) (offE eo (12))], errT, false⟩), (13, some ⟨.agg [.err 155 (13) (offE eo (13))], errT, false⟩), (14, some ⟨.agg [.err 155 (14) (offE eo (14))], errT, false⟩), (15, some ⟨.agg [.err 155 (15) (offE eo (15))], errT, false⟩), (16, some ⟨.agg [.err 155 (16) (offE eo (16))], errT, false⟩), (0, some ⟨.agg [.err 155 (17) (offE eo (17))], errT, false⟩), (17, some ⟨.agg [.err 155 (18) (offE eo (18))], errT, false⟩), (18, some ⟨.agg [.err 155 (19) (offE eo (19))], errT, false⟩), (19, some ⟨.agg [.err 155 (20) (offE eo (20))], errT, false⟩), (401, some ⟨.agg [], errT, false⟩), (402, some ⟨.agg [], errT, false⟩), (403, some ⟨.agg [], errT, false⟩), (404, some ⟨.agg [], errT, false⟩), (405, some ⟨.agg [], errT, false⟩), (406, some ⟨.agg [], errT, false⟩), (407, some ⟨.agg [], errT, false⟩), (408, some ⟨.agg [], errT, false⟩), (409, some ⟨.agg [], errT, false⟩), (410, some ⟨.agg [], errT, false⟩), (411, some ⟨.agg [], errT, false⟩), (412, some ⟨.agg [], errT, false⟩), (413, some ⟨.agg [], errT, false⟩), (414, some ⟨.agg [], errT, false⟩), (415, some ⟨.agg [], errT, false⟩), (416, some ⟨.agg [], errT, false⟩), (417, some ⟨.agg [], errT, false⟩), (418, some ⟨.agg [], errT, false⟩), (419, some ⟨.agg [], errT, false⟩), (420, some ⟨.agg [], errT, false⟩)] (.tup [.agg [.str [], .str [], .i64 0, .i64 0, .i64 0], .i64 (-1), .err 155 (17) (offE eo (17))]) [(500, some ⟨.agg [.i64 a, .i64 b, .i64 c, .mp 501, .i64 ep], 68, true⟩), (501, some ⟨mpV M ck, 0, true⟩)] := by
 refine meets_of_ev (nt := 74) Tryd.func19 rfl rfl (Nat.le_of_ble_eq_true rfl) ?_
 refine .seq ?_
 refine .region ?_
 refine .a (op_allocRow zero45 rel_zero45 rfl) trivial rfl ?_
 refine .q (op_assign rfl) trivial rfl ?_
 refine .q (op_assign rfl) trivial rfl ?_
 refine .nil ?_
 show Ev _ _ _ _ _
 refine .seq ?_
 refine .seq ?_
 refine .region ?_
 refine .q (op_move rfl) trivial rfl ?_
 refine .q (op_call (U := []) [] [] (nameN_ev (t) ht) Tryd.func9 (by kernel_rfl) rfl rfl rfl (⟨⟨_, rfl, rfl, rfl⟩, trivial⟩) (trivial) (trivial) (trivial) rfl) trivial rfl ?_
 refine .q (op_notB rfl) trivial rfl ?_
 refine .q (op_move rfl) trivial rfl ?_
 refine .know (b' := false) (by show (!nameN _) = false; rw [hvt]; rfl) ?_
 refine .q (op_move rfl) ⟨_, rfl, rfl⟩ rfl ?_
 refine .q (op_call (U := []) [] [] (nameN_ev (al) ha) Tryd.func9 (by kernel_rfl) rfl rfl rfl (⟨⟨_, rfl, rfl, rfl⟩, trivial⟩) (trivial) (trivial) (trivial) rfl) ⟨_, rfl, rfl⟩ rfl ?_
 refine .q (op_notB rfl) ⟨_, rfl, rfl⟩ rfl ?_
 refine .q (op_pick_false rfl rfl rfl) trivial rfl ?_
 refine .nil ?_
 show Ev _ _ _ _ _
 refine .cond_true rfl (by first | rfl | (show (!nameN _) = true; rw [hva]; rfl)) ?_
 refine .seq ?_
 refine .drawnF [[], [], [0], [0, 2], [0, 1, 2, 3]] [1, 2] [] [(1, ([0], [])), (2, ([], [1000]))] (by kernel_rfl) (by kernel_rfl) rfl ?_
 show DK _ [0, 1, 2, 3, 4] _ _ _
 refine .q rfl (op_buildS (r := .agg _) Tryd.underlying45 rfl zero45 rel_zero45 rfl rfl rfl rfl) trivial ?_
 refine .q rfl (op_load Tryd.underlying47 rfl rfl rfl rfl (by first | omega | (simp only [AV.len]; omega) | (simp only [AV.len, List.length_set]; omega) | assumption | (simp [AV.len]; done))) trivial ?_
 refine .w rfl (op_storeRow (by kernel_rfl) rfl rfl rfl rfl rfl (rfl) (rfl)) trivial rfl rfl ?_
 refine .q rfl (op_assign rfl) trivial ?_
 refine .q rfl (op_assign rfl) trivial ?_
 refine .nil ?_
 show Ev _ _ _ _ _
 refine .ret ?_
 show RetOk _ _ _ _ _ _ _
 exact retc3 rfl (.inl rfl) ⟨_, _, _, _, rfl, rfl, rfl, rfl, rfl, Tryd.underlying45, rfl, sz45⟩ rfl rfl ⟨rfl, rfl, trivial⟩
set_option maxRecDepth 100000 in
theorem tkH_ev (a b c ep : Int) {M : List (Ls × Nat)} {ck : Nat} {L : List Ls} (h : MI M ck L) {x : Ls} (hx : x ∈ L) (w now : Int) (hvt : nameN x.t = true) (hva : nameN x.a = true) (hw : x.o = w) (eo : Nat → Nat × Nat)  : Meets Tryd.prog 19 [.ptr 500 0, .str x.t, .str x.a, .i64 w, .i64 now] [(500, some ⟨.agg [.i64 a, .i64 b, .i64 c, .mp 501, .i64 ep], 68, true⟩), (501, some ⟨mpV (M) (ck), 0, true⟩), (3, some ⟨.agg [.err 155 (1) (offE eo (1))], errT, false⟩), (4, some ⟨.agg [.err 155 (2) (offE eo (2))], errT, false⟩), (5, some ⟨.agg [.err 155 (3) (offE eo (3))], errT, false⟩), (6, some ⟨.agg [.err 155 (4) (offE eo (4))], errT, false⟩), (7, some ⟨.agg [.err 155 (5) (offE eo (5))], errT, false⟩), (8, some ⟨.agg [.err 155 (6) (offE eo (6))], errT, false⟩), (9, some ⟨.agg [.err 155 (7) (offE eo (7))], errT, false⟩), (2, some ⟨.agg [.err 155 (8) (offE eo (8))], errT, false⟩), (1, some ⟨.agg [.err 155 (9) (offE eo (9))], errT, false⟩), (10, some ⟨.agg [.err 155 (10) (offE eo (10))], errT, false⟩), (11, some ⟨.agg [.err 155 (11) (offE eo (11))], errT, false⟩), (12, some ⟨.agg [.err 155 (12) (offE eo (12))], errT, false⟩), (13, some ⟨.agg [.err 155 (13) (offE eo (13))], errT, false⟩), (14, some ⟨.agg [.err 155 (14) (offE eo (14))], errT, false⟩), (15, some ⟨.agg [.err 155 (15) (offE eo (15))], errT, false⟩), (16, some ⟨.agg [.err 155 (16) (offE eo (16))], errT, false⟩), (0, some ⟨.agg [.err 155 (17) (offE eo (17))], errT, false⟩), (17, some ⟨.agg [.err 155 (18) (offE eo (18))], errT, false⟩), (18, some ⟨.agg [.err 155 (19) (offE eo (19))], errT, false⟩), (19, some ⟨.agg [.err 155 (20) (offE eo (20))], errT, false⟩), (401, some ⟨.agg [], errT, false⟩), (402, some ⟨.agg [], errT, false⟩), (403, some ⟨.agg [], errT, false⟩), (404, some ⟨.agg [], errT, false⟩), (405, some ⟨.agg [], errT, false⟩), (406, some ⟨.agg [], errT, false⟩), (407, some ⟨.agg [], errT, false⟩), (408, some ⟨.agg [], errT, false⟩), (409, some ⟨.agg [], errT, false⟩), (410, some ⟨.agg [], errT, false⟩), (411, some ⟨.agg [], errT, false⟩), (412, some ⟨.agg [], errT, false⟩), (413, some ⟨.agg [], errT, false⟩), (414, some ⟨.agg [], errT, false⟩), (415, some ⟨.agg [], errT, false⟩), (416, some ⟨.agg [], errT, false⟩), (417, some ⟨.agg [], errT, false⟩), (418, some ⟨.agg [], errT, false⟩), (419, some ⟨.agg [], errT, false⟩), (420, some ⟨.agg [], errT, false⟩)] (.tup [.agg [.str [], .str [], .i64 0, .i64 0, .i64 0], .i64 (-1), .err 155 (9) (offE eo (9))]) [(500, some ⟨.agg [.i64 a, .i64 b, .i64 c, .mp 501, .i64 ep], 68, true⟩), (501, some ⟨mpV M ck, 0, true⟩)] := by
 refine meets_of_ev (nt := 74) Tryd.func19 rfl rfl (Nat.le_of_ble_eq_true rfl) ?_
 refine .seq ?_
 refine .region ?_
 refine .a (op_allocRow zero45 rel_zero45 rfl) trivial rfl ?_
 refine .q (op_assign rfl) trivial rfl ?_
 refine .q (op_assign rfl) trivial rfl ?_
 refine .nil ?_
 show Ev _ _ _ _ _
 refine .seq ?_
 refine .seq ?_
 refine .region ?_
 refine .q (op_move rfl) trivial rfl ?_
 refine .q (op_call (U := []) [] [] (nameN_ev (x.t) (by have := (h.sz x hx).1; omega)) Tryd.func9 (by kernel_rfl) rfl rfl rfl (⟨⟨_, rfl, rfl, rfl⟩, trivial⟩) (trivial) (trivial) (trivial) rfl) trivial rfl ?_
 refine .q (op_notB rfl) trivial rfl ?_
 refine .q (op_move rfl) trivial rfl ?_
 refine .know (b' := false) (by show (!nameN _) = false; rw [hvt]; rfl) ?_
 refine .q (op_move rfl) ⟨_, rfl, rfl⟩ rfl ?_
 refine .q (op_call (U := []) [] [] (nameN_ev (x.a) (by have := (h.sz x hx).2; omega)) Tryd.func9 (by kernel_rfl) rfl rfl rfl (⟨⟨_, rfl, rfl, rfl⟩, trivial⟩) (trivial) (trivial) (trivial) rfl) ⟨_, rfl, rfl⟩ rfl ?_
 refine .q (op_notB rfl) ⟨_, rfl, rfl⟩ rfl ?_
 refine .q (op_pick_false rfl rfl rfl) trivial rfl ?_
 refine .nil ?_
 show Ev _ _ _ _ _
 refine .cond_false rfl (by first | rfl | (show (!nameN _) = false; rw [hva]; rfl)) ?_
 refine .skip ?_
 show Ev _ _ _ _ _
 refine .seq ?_
 refine .region ?_
 refine .q (op_assign rfl) trivial rfl ?_
 refine .nil ?_
 show Ev _ _ _ _ _
 refine .seq ?_
 refine .seq ?_
 refine .region ?_
 refine .q (op_move rfl) trivial rfl ?_
 refine .q (op_move rfl) trivial rfl ?_
 refine .q (op_move rfl) trivial rfl ?_
 refine .q (op_call (U := []) [(500, 500), (501, 501)] [] (findY_ev a b c ep h hx) Tryd.func20 (by kernel_rfl) rfl rfl rfl (⟨⟨_, rfl, rfl, rfl⟩, ⟨_, rfl, rfl, rfl⟩, ⟨_, rfl, rfl, rfl⟩, trivial⟩) (⟨⟨_, _, rfl, rfl, rfl, rfl, (fun h => by cases h), rfl⟩, ⟨_, _, rfl, rfl, rfl, rfl, (fun h => by cases h), rfl⟩, trivial⟩) (trivial) (⟨(fun h => by cases h), (fun h => by cases h), trivial⟩) rfl) trivial rfl ?_
 refine .q (op_move rfl) trivial rfl ?_
 refine .q (op_extract rfl rfl) trivial rfl ?_
 refine .q (op_extract rfl rfl) trivial rfl ?_
 refine .a (op_allocRow zero45 rel_zero45 rfl) trivial rfl ?_
 refine .w (op_storeRow (by kernel_rfl) rfl rfl rfl rfl rfl (rfl) (rfl)) trivial rfl ?_
 refine .q (op_assign rfl) trivial rfl ?_
 refine .nil ?_
 show Ev _ _ _ _ _
 refine .seq ?_
 refine .region ?_
 refine .q (op_move rfl) trivial rfl ?_
 refine .asR (.err 155 0 (0, 0)) (nil_err _ _) ?_
 refine .q (op_eqErrNil (e := 0) Tryd.underlying47 rfl rfl) trivial rfl ?_
 refine .nil ?_
 show Ev _ _ _ _ _
 refine .cond_true rfl (rfl) ?_
 refine .seq ?_
 refine .seq ?_
 refine .region ?_
 refine .q (op_fieldAddr (m := 0) Tryd.underlying45 rfl (by kernel_rfl) rfl) trivial rfl ?_
 refine .as (.ptr 1008 2) rfl ?_
 refine .q (op_load Tryd.underlying3 rfl rfl rfl rfl (by show 2 < 5; decide)) trivial rfl ?_
 refine .q (op_move rfl) trivial rfl ?_
 refine .q (op_cmpI rfl rfl rfl) trivial rfl ?_
 refine .nil ?_
 show Ev _ _ _ _ _
 refine .cond_true rfl (by show (x.o == w) = true; simpa using hw) ?_
 refine .seq ?_
 refine .drawnF [[], [], [0], [0, 2], [0, 1, 2, 3]] [1, 2] [] [(1, ([1], [])), (2, ([], [1000]))] (by kernel_rfl) (by kernel_rfl) rfl ?_
 show DK _ [0, 1, 2, 3, 4] _ _ _
 refine .q rfl (op_buildS (r := .agg _) Tryd.underlying45 rfl zero45 rel_zero45 rfl rfl rfl rfl) trivial ?_
 refine .q rfl (op_load Tryd.underlying47 rfl rfl rfl rfl (by first | omega | (simp only [AV.len]; omega) | (simp only [AV.len, List.length_set]; omega) | assumption | (simp [AV.len]; done))) trivial ?_
 refine .w rfl (op_storeRow (by kernel_rfl) rfl rfl rfl rfl rfl (rfl) (rfl)) trivial rfl rfl ?_
 refine .q rfl (op_assign rfl) trivial ?_
 refine .q rfl (op_assign rfl) trivial ?_
 refine .nil ?_
 show Ev _ _ _ _ _
 refine .ret ?_
 show RetOk _ _ _ _ _ _ _
 exact retc3 rfl (.inl rfl) ⟨_, _, _, _, rfl, rfl, rfl, rfl, rfl, Tryd.underlying45, rfl, sz45⟩ rfl rfl ⟨rfl, rfl, trivial⟩
set_option maxRecDepth 100000 in
theorem tkO_ev (a b c ep : Int) {M : List (Ls × Nat)} {ck : Nat} {L : List Ls} (h : MI M ck L) {x : Ls} (hx : x ∈ L) (w now : Int) (hvt : nameN x.t = true) (hva : nameN x.a = true) (hw : x.o ≠ w) (eo : Nat → Nat × Nat) (hep : 0 ≤ ep ∧ ep ≤ 1000000000)  : Meets Tryd.prog 19 [.ptr 500 0, .str x.t, .str x.a, .i64 w, .i64 now] [(500, some ⟨.agg [.i64 a, .i64 b, .i64 c, .mp 501, .i64 ep], 68, true⟩), (501, some ⟨mpV (M) (ck), 0, true⟩), (3, some ⟨.agg [.err 155 (1) (offE eo (1))], errT, false⟩), (4, some ⟨.agg [.err 155 (2) (offE eo (2))], errT, false⟩), (5, some ⟨.agg [.err 155 (3) (offE eo (3))], errT, false⟩), (6, some ⟨.agg [.err 155 (4) (offE eo (4))], errT, false⟩), (7, some ⟨.agg [.err 155 (5) (offE eo (5))], errT, false⟩), (8, some ⟨.agg [.err 155 (6) (offE eo (6))], errT, false⟩), (9, some ⟨.agg [.err 155 (7) (offE eo (7))], errT, false⟩), (2, some ⟨.agg [.err 155 (8) (offE eo (8))], errT, false⟩), (1, some ⟨.agg [.err 155 (9) (offE eo (9))], errT, false⟩), (10, some ⟨.agg [.err 155 (10) (offE eo (10))], errT, false⟩), (11, some ⟨.agg [.err 155 (11) (offE eo (11))], errT, false⟩), (12, some ⟨.agg [.err 155 (12) (offE eo (12))], errT, false⟩), (13, some ⟨.agg [.err 155 (13) (offE eo (13))], errT, false⟩), (14, some ⟨.agg [.err 155 (14) (offE eo (14))], errT, false⟩), (15, some ⟨.agg [.err 155 (15) (offE eo (15))], errT, false⟩), (16, some ⟨.agg [.err 155 (16) (offE eo (16))], errT, false⟩), (0, some ⟨.agg [.err 155 (17) (offE eo (17))], errT, false⟩), (17, some ⟨.agg [.err 155 (18) (offE eo (18))], errT, false⟩), (18, some ⟨.agg [.err 155 (19) (offE eo (19))], errT, false⟩), (19, some ⟨.agg [.err 155 (20) (offE eo (20))], errT, false⟩), (401, some ⟨.agg [], errT, false⟩), (402, some ⟨.agg [], errT, false⟩), (403, some ⟨.agg [], errT, false⟩), (404, some ⟨.agg [], errT, false⟩), (405, some ⟨.agg [], errT, false⟩), (406, some ⟨.agg [], errT, false⟩), (407, some ⟨.agg [], errT, false⟩), (408, some ⟨.agg [], errT, false⟩), (409, some ⟨.agg [], errT, false⟩), (410, some ⟨.agg [], errT, false⟩), (411, some ⟨.agg [], errT, false⟩), (412, some ⟨.agg [], errT, false⟩), (413, some ⟨.agg [], errT, false⟩), (414, some ⟨.agg [], errT, false⟩), (415, some ⟨.agg [], errT, false⟩), (416, some ⟨.agg [], errT, false⟩), (417, some ⟨.agg [], errT, false⟩), (418, some ⟨.agg [], errT, false⟩), (419, some ⟨.agg [], errT, false⟩), (420, some ⟨.agg [], errT, false⟩)] (.tup [lsV ⟨x.t, x.a, w, ep + 1, tickV now⟩, .i64 x.o, .val .nilIface]) [(500, some ⟨.agg [.i64 a, .i64 b, .i64 c, .mp 501, .i64 (ep + 1)], 68, true⟩), (501, some ⟨mpV (putM M ck ⟨x.t, x.a, w, ep + 1, tickV now⟩).1 (putM M ck ⟨x.t, x.a, w, ep + 1, tickV now⟩).2, 0, true⟩)] := by
 refine meets_of_ev (nt := 74) Tryd.func19 rfl rfl (Nat.le_of_ble_eq_true rfl) ?_
 refine .seq ?_
 refine .region ?_
 refine .a (op_allocRow zero45 rel_zero45 rfl) trivial rfl ?_
 refine .q (op_assign rfl) trivial rfl ?_
 refine .q (op_assign rfl) trivial rfl ?_
 refine .nil ?_
 show Ev _ _ _ _ _
 refine .seq ?_
 refine .seq ?_
 refine .region ?_
 refine .q (op_move rfl) trivial rfl ?_
 refine .q (op_call (U := []) [] [] (nameN_ev (x.t) (by have := (h.sz x hx).1; omega)) Tryd.func9 (by kernel_rfl) rfl rfl rfl (⟨⟨_, rfl, rfl, rfl⟩, trivial⟩) (trivial) (trivial) (trivial) rfl) trivial rfl ?_
 refine .q (op_notB rfl) trivial rfl ?_
 refine .q (op_move rfl) trivial rfl ?_
 refine .know (b' := false) (by show (!nameN _) = false; rw [hvt]; rfl) ?_
 refine .q (op_move rfl) ⟨_, rfl, rfl⟩ rfl ?_
 refine .q (op_call (U := []) [] [] (nameN_ev (x.a) (by have := (h.sz x hx).2; omega)) Tryd.func9 (by kernel_rfl) rfl rfl rfl (⟨⟨_, rfl, rfl, rfl⟩, trivial⟩) (trivial) (trivial) (trivial) rfl) ⟨_, rfl, rfl⟩ rfl ?_
 refine .q (op_notB rfl) ⟨_, rfl, rfl⟩ rfl ?_
 refine .q (op_pick_false rfl rfl rfl) trivial rfl ?_
 refine .nil ?_
 show Ev _ _ _ _ _
 refine .cond_false rfl (by first | rfl | (show (!nameN _) = false; rw [hva]; rfl)) ?_
 refine .skip ?_
 show Ev _ _ _ _ _
 refine .seq ?_
 refine .region ?_
 refine .q (op_assign rfl) trivial rfl ?_
 refine .nil ?_
 show Ev _ _ _ _ _
 refine .seq ?_
 refine .seq ?_
 refine .region ?_
 refine .q (op_move rfl) trivial rfl ?_
 refine .q (op_move rfl) trivial rfl ?_
 refine .q (op_move rfl) trivial rfl ?_
 refine .q (op_call (U := []) [(500, 500), (501, 501)] [] (findY_ev a b c ep h hx) Tryd.func20 (by kernel_rfl) rfl rfl rfl (⟨⟨_, rfl, rfl, rfl⟩, ⟨_, rfl, rfl, rfl⟩, ⟨_, rfl, rfl, rfl⟩, trivial⟩) (⟨⟨_, _, rfl, rfl, rfl, rfl, (fun h => by cases h), rfl⟩, ⟨_, _, rfl, rfl, rfl, rfl, (fun h => by cases h), rfl⟩, trivial⟩) (trivial) (⟨(fun h => by cases h), (fun h => by cases h), trivial⟩) rfl) trivial rfl ?_
 refine .q (op_move rfl) trivial rfl ?_
 refine .q (op_extract rfl rfl) trivial rfl ?_
 refine .q (op_extract rfl rfl) trivial rfl ?_
 refine .a (op_allocRow zero45 rel_zero45 rfl) trivial rfl ?_
 refine .w (op_storeRow (by kernel_rfl) rfl rfl rfl rfl rfl (rfl) (rfl)) trivial rfl ?_
 refine .q (op_assign rfl) trivial rfl ?_
 refine .nil ?_
 show Ev _ _ _ _ _
 refine .seq ?_
 refine .region ?_
 refine .q (op_move rfl) trivial rfl ?_
 refine .asR (.err 155 0 (0, 0)) (nil_err _ _) ?_
 refine .q (op_eqErrNil (e := 0) Tryd.underlying47 rfl rfl) trivial rfl ?_
 refine .nil ?_
 show Ev _ _ _ _ _
 refine .cond_true rfl (rfl) ?_
 refine .seq ?_
 refine .seq ?_
 refine .region ?_
 refine .q (op_fieldAddr (m := 0) Tryd.underlying45 rfl (by kernel_rfl) rfl) trivial rfl ?_
 refine .as (.ptr 1008 2) rfl ?_
 refine .q (op_load Tryd.underlying3 rfl rfl rfl rfl (by show 2 < 5; decide)) trivial rfl ?_
 refine .q (op_move rfl) trivial rfl ?_
 refine .q (op_cmpI rfl rfl rfl) trivial rfl ?_
 refine .nil ?_
 show Ev _ _ _ _ _
 refine .cond_false rfl (by show (x.o == w) = false; simpa using hw) ?_
 refine .skip ?_
 show Ev _ _ _ _ _
 refine .region ?_
 refine .q (op_fieldAddr (m := 0) Tryd.underlying45 rfl (by kernel_rfl) rfl) trivial rfl ?_
 refine .as (.ptr 1008 2) rfl ?_
 refine .q (op_load Tryd.underlying3 rfl rfl rfl rfl (by show 2 < 5; decide)) trivial rfl ?_
 refine .q (op_assign rfl) trivial rfl ?_
 refine .nil ?_
 show Ev _ _ _ _ _
 refine .seq ?_
 refine .region ?_
 refine .q (op_move rfl) trivial rfl ?_
 refine .q (op_nilCheck rfl) trivial rfl ?_
 refine .q (op_fieldAddr (m := 0) Tryd.underlying68 rfl (by kernel_rfl) rfl) trivial rfl ?_
 refine .as (.ptr 500 4) rfl ?_
 refine .q (op_load Tryd.underlying3 rfl rfl rfl rfl (by first | omega | (simp only [AV.len]; omega) | (simp only [AV.len, List.length_set]; omega) | assumption | (simp [AV.len]; done))) trivial rfl ?_
 refine .q (op_addI rfl rfl ⟨by omega, by omega⟩) trivial rfl ?_
 refine .q (op_nilCheck rfl) trivial rfl ?_
 refine .q (op_fieldAddr (m := 0) Tryd.underlying68 rfl (by kernel_rfl) rfl) trivial rfl ?_
 refine .as (.ptr 500 4) rfl ?_
 refine .w (op_store inf3.sz rfl rfl rfl rfl rfl (by first | omega | (simp only [AV.len]; omega) | (simp only [AV.len, List.length_set]; omega) | assumption | (simp [AV.len]; done))) trivial rfl ?_
 refine .nil ?_
 show Ev _ _ _ _ _
 refine .seq ?_
 refine .drawn [[], [], [], [], [3], [3, 4], [3, 4, 5], [], [7], [0, 1, 2, 3, 4, 5, 6, 7, 8], [], [0, 1, 2, 3, 4, 5, 6, 7, 8, 9, 10]] [6, 8, 10, 11] [11] (by kernel_rfl) (by kernel_rfl) rfl ?_
 show DK _ [0, 1, 2, 3, 4, 5, 6, 7, 8, 9, 10, 11] _ _ _
 refine .q rfl (op_move rfl) trivial ?_
 refine .q rfl (op_move rfl) trivial ?_
 refine .q rfl (op_move rfl) trivial ?_
 refine .q rfl (op_move rfl) trivial ?_
 refine .q rfl (op_nilCheck rfl) trivial ?_
 refine .q rfl (op_fieldAddr (m := 0) Tryd.underlying68 rfl (by kernel_rfl) rfl) trivial ?_
 refine .as (.ptr 500 4) rfl ?_
 refine .q rfl (op_load Tryd.underlying3 rfl rfl rfl rfl (by first | omega | (simp only [AV.len]; omega) | (simp only [AV.len, List.length_set]; omega) | assumption | (simp [AV.len]; done))) trivial ?_
 refine .q rfl (op_move rfl) trivial ?_
 refine .q rfl (op_call (U := []) [] [] (tick_ev now) Tryd.func39 (by kernel_rfl) rfl rfl rfl (⟨⟨_, rfl, rfl, rfl⟩, trivial⟩) (trivial) (trivial) (trivial) rfl) trivial ?_
 refine .q rfl (op_buildS (r := .agg _) Tryd.underlying45 rfl zero45 rel_zero45 rfl rfl rfl rfl) trivial ?_
 refine .a rfl (op_allocRow zero45 rel_zero45 rfl) trivial rfl rfl ?_
 refine .w rfl (op_storeRow (by kernel_rfl) rfl rfl rfl rfl rfl (rfl) (rfl)) trivial rfl rfl ?_
 refine .nil ?_
 show Ev _ _ _ _ _
 refine .seq ?_
 refine .region ?_
 refine .q (op_move rfl) trivial rfl ?_
 refine .q (op_loadRow Tryd.underlying45 rfl (by kernel_rfl) rfl rfl rfl (rfl)) trivial rfl ?_
 refine .a (op_call (U := [(501, some ⟨mpV (putM M ck ⟨x.t, x.a, w, ep + 1, tickV now⟩).1 (putM M ck ⟨x.t, x.a, w, ep + 1, tickV now⟩).2, 0, true⟩)]) [(500, 500), (501, 501)] [] (put_ev a b c (ep + 1) h ⟨x.t, x.a, w, ep + 1, tickV now⟩ (h.sz x hx)) Tryd.func40 (by kernel_rfl) rfl rfl rfl (⟨⟨_, rfl, rfl, rfl⟩, ⟨_, rfl, rfl, rfl⟩, trivial⟩) (⟨⟨_, _, rfl, rfl, rfl, rfl, (fun h => by cases h), rfl⟩, ⟨_, _, rfl, rfl, rfl, rfl, id, rfl⟩, trivial⟩) (⟨⟨501, _, rfl, rfl, rfl, rfl, .inr ⟨rfl, _, rfl, rfl⟩⟩, trivial⟩) (⟨(fun h => by cases h), (fun _ => ⟨501, _, rfl, rfl⟩), trivial⟩) rfl) trivial rfl ?_
 refine .nil ?_
 show Ev _ _ _ _ _
 refine .seq ?_
 refine .region ?_
 refine .q (op_loadRow Tryd.underlying45 rfl (by kernel_rfl) rfl rfl rfl (rfl)) trivial rfl ?_
 refine .q (op_move rfl) trivial rfl ?_
 refine .w (op_storeRow (by kernel_rfl) rfl rfl rfl rfl rfl (rfl) (rfl)) trivial rfl ?_
 refine .q (op_assign rfl) trivial rfl ?_
 refine .q (op_assign rfl) trivial rfl ?_
 refine .nil ?_
 show Ev _ _ _ _ _
 refine .ret ?_
 show RetOk _ _ _ _ _ _ _
 exact retc3 rfl (.inl rfl) ⟨_, _, _, _, rfl, rfl, rfl, rfl, rfl, Tryd.underlying45, rfl, sz45⟩ rfl rfl ⟨rfl, rfl, trivial⟩
set_option maxRecDepth 100000 in
theorem tkQ_ev (a b c ep : Int) {M : List (Ls × Nat)} {ck : Nat} {L : List Ls} (h : MI M ck L) {t al : List UInt8} (hn : ∀ x ∈ L, ¬ (x.t = t ∧ x.a = al)) (w now : Int) (hvt : nameN t = true) (hva : nameN al = true) (eo : Nat → Nat × Nat) (hq : a ≤ ((L.filter (fun x => x.t == t)).length : Nat))  : Meets Tryd.prog 19 [.ptr 500 0, .str t, .str al, .i64 w, .i64 now] [(500, some ⟨.agg [.i64 a, .i64 b, .i64 c, .mp 501, .i64 ep], 68, true⟩), (501, some ⟨mpV (M) (ck), 0, true⟩), (3, some ⟨.agg [.err 155 (1) (offE eo (1))], errT, false⟩), (4, some ⟨.agg [.err 155 (2) (offE eo (2))], errT, false⟩), (5, some ⟨.agg [.err 155 (3) (offE eo (3))], errT, false⟩), (6, some ⟨.agg [.err 155 (4) (offE eo (4))], errT, false⟩), (7, some ⟨.agg [.err 155 (5) (offE eo (5))], errT, false⟩), (8, some ⟨.agg [.err 155 (6) (offE eo (6))], errT, false⟩), (9, some ⟨.agg [.err 155 (7) (offE eo (7))], errT, false⟩), (2, some ⟨.agg [.err 155 (8) (offE eo (8))], errT, false⟩), (1, some ⟨.agg [.err 155 (9) (offE eo (9))], errT, false⟩), (10, some ⟨.agg [.err 155 (10) (offE eo (10))], errT, false⟩), (11, some ⟨.agg [.err 155 (11) (offE eo (11))], errT, false⟩), (12, some ⟨.agg [.err 155 (12) (offE eo (12))], errT, false⟩), (13, some ⟨.agg [.err 155 (13) (offE eo (13))], errT, false⟩), (14, some ⟨.agg [.err 155 (14) (offE eo (14))], errT, false⟩), (15, some ⟨.agg [.err 155 (15) (offE eo (15))], errT, false⟩), (16, some ⟨.agg [.err 155 (16) (offE eo (16))], errT, false⟩), (0, some ⟨.agg [.err 155 (17) (offE eo (17))], errT, false⟩), (17, some ⟨.agg [.err 155 (18) (offE eo (18))], errT, false⟩), (18, some ⟨.agg [.err 155 (19) (offE eo (19))], errT, false⟩), (19, some ⟨.agg [.err 155 (20) (offE eo (20))], errT, false⟩), (401, some ⟨.agg [], errT, false⟩), (402, some ⟨.agg [], errT, false⟩), (403, some ⟨.agg [], errT, false⟩), (404, some ⟨.agg [], errT, false⟩), (405, some ⟨.agg [], errT, false⟩), (406, some ⟨.agg [], errT, false⟩), (407, some ⟨.agg [], errT, false⟩), (408, some ⟨.agg [], errT, false⟩), (409, some ⟨.agg [], errT, false⟩), (410, some ⟨.agg [], errT, false⟩), (411, some ⟨.agg [], errT, false⟩), (412, some ⟨.agg [], errT, false⟩), (413, some ⟨.agg [], errT, false⟩), (414, some ⟨.agg [], errT, false⟩), (415, some ⟨.agg [], errT, false⟩), (416, some ⟨.agg [], errT, false⟩), (417, some ⟨.agg [], errT, false⟩), (418, some ⟨.agg [], errT, false⟩), (419, some ⟨.agg [], errT, false⟩), (420, some ⟨.agg [], errT, false⟩)] (.tup [.agg [.str [], .str [], .i64 0, .i64 0, .i64 0], .i64 (-1), .err 155 (16) (offE eo (16))]) [(500, some ⟨.agg [.i64 a, .i64 b, .i64 c, .mp 501, .i64 ep], 68, true⟩), (501, some ⟨mpV M ck, 0, true⟩)] := by
 refine meets_of_ev (nt := 74) Tryd.func19 rfl rfl (Nat.le_of_ble_eq_true rfl) ?_
 refine .seq ?_
 refine .region ?_
 refine .a (op_allocRow zero45 rel_zero45 rfl) trivial rfl ?_
 refine .q (op_assign rfl) trivial rfl ?_
 refine .q (op_assign rfl) trivial rfl ?_
 refine .nil ?_
 show Ev _ _ _ _ _
 refine .seq ?_
 refine .seq ?_
 refine .region ?_
 refine .q (op_move rfl) trivial rfl ?_
 refine .q (op_call (U := []) [] [] (nameN_ev (t) (by have := nameN_len hvt; omega)) Tryd.func9 (by kernel_rfl) rfl rfl rfl (⟨⟨_, rfl, rfl, rfl⟩, trivial⟩) (trivial) (trivial) (trivial) rfl) trivial rfl ?_
 refine .q (op_notB rfl) trivial rfl ?_
 refine .q (op_move rfl) trivial rfl ?_
 refine .know (b' := false) (by show (!nameN _) = false; rw [hvt]; rfl) ?_
 refine .q (op_move rfl) ⟨_, rfl, rfl⟩ rfl ?_
 refine .q (op_call (U := []) [] [] (nameN_ev (al) (by have := nameN_len hva; omega)) Tryd.func9 (by kernel_rfl) rfl rfl rfl (⟨⟨_, rfl, rfl, rfl⟩, trivial⟩) (trivial) (trivial) (trivial) rfl) ⟨_, rfl, rfl⟩ rfl ?_
 refine .q (op_notB rfl) ⟨_, rfl, rfl⟩ rfl ?_
 refine .q (op_pick_false rfl rfl rfl) trivial rfl ?_
 refine .nil ?_
 show Ev _ _ _ _ _
 refine .cond_false rfl (by first | rfl | (show (!nameN _) = false; rw [hva]; rfl)) ?_
 refine .skip ?_
 show Ev _ _ _ _ _
 refine .seq ?_
 refine .region ?_
 refine .q (op_assign rfl) trivial rfl ?_
 refine .nil ?_
 show Ev _ _ _ _ _
 refine .seq ?_
 refine .seq ?_
 refine .region ?_
 refine .q (op_move rfl) trivial rfl ?_
 refine .q (op_move rfl) trivial rfl ?_
 refine .q (op_move rfl) trivial rfl ?_
 refine .q (op_call (U := []) [(500, 500), (501, 501)] [] (findN_ev a b c ep h (mkLen (nameN_len hvt)) (mkLen (nameN_len hva)) hn eo) Tryd.func20 (by kernel_rfl) rfl rfl rfl (⟨⟨_, rfl, rfl, rfl⟩, ⟨_, rfl, rfl, rfl⟩, ⟨_, rfl, rfl, rfl⟩, trivial⟩) (⟨⟨_, _, rfl, rfl, rfl, rfl, (fun h => by cases h), rfl⟩, ⟨_, _, rfl, rfl, rfl, rfl, (fun h => by cases h), rfl⟩, ⟨_, _, rfl, rfl, rfl, rfl, (fun h => by cases h), rfl⟩, trivial⟩) (trivial) (⟨(fun h => by cases h), (fun h => by cases h), (fun h => by cases h), trivial⟩) rfl) trivial rfl ?_
 refine .q (op_move rfl) trivial rfl ?_
 refine .q (op_extract rfl rfl) trivial rfl ?_
 refine .q (op_extract rfl rfl) trivial rfl ?_
 refine .a (op_allocRow zero45 rel_zero45 rfl) trivial rfl ?_
 refine .w (op_storeRow (by kernel_rfl) rfl rfl rfl rfl rfl (rfl) (rfl)) trivial rfl ?_
 refine .q (op_assign rfl) trivial rfl ?_
 refine .nil ?_
 show Ev _ _ _ _ _
 refine .seq ?_
 refine .region ?_
 refine .q (op_move rfl) trivial rfl ?_
 refine .q (op_eqErrNil (e := 8) Tryd.underlying47 rfl rfl) trivial rfl ?_
 refine .nil ?_
 show Ev _ _ _ _ _
 refine .cond_false rfl (rfl) ?_
 refine .seq ?_
 refine .region ?_
 refine .q (op_move rfl) trivial rfl ?_
 refine .q (op_move rfl) trivial rfl ?_
 refine .q (op_call (U := []) [(500, 500), (501, 501)] [] (roomQ_ev a b c ep h t eo hq) Tryd.func38 (by kernel_rfl) rfl rfl rfl (⟨⟨_, rfl, rfl, rfl⟩, ⟨_, rfl, rfl, rfl⟩, trivial⟩) (⟨⟨_, _, rfl, rfl, rfl, rfl, (fun h => by cases h), rfl⟩, ⟨_, _, rfl, rfl, rfl, rfl, (fun h => by cases h), rfl⟩, ⟨_, _, rfl, rfl, rfl, rfl, (fun h => by cases h), rfl⟩, trivial⟩) (trivial) (⟨(fun h => by cases h), (fun h => by cases h), (fun h => by cases h), trivial⟩) rfl) trivial rfl ?_
 refine .q (op_assign rfl) trivial rfl ?_
 refine .nil ?_
 show Ev _ _ _ _ _
 refine .seq ?_
 refine .region ?_
 refine .q (op_move rfl) trivial rfl ?_
 refine .q (op_eqErrNil (e := 16) Tryd.underlying47 rfl rfl) trivial rfl ?_
 refine .nil ?_
 show Ev _ _ _ _ _
 refine .cond_true rfl (rfl) ?_
 refine .seq ?_
 refine .region ?_
 refine .q (op_buildS (r := .agg _) Tryd.underlying45 rfl zero45 rel_zero45 rfl rfl rfl rfl) trivial rfl ?_
 refine .q (op_move rfl) trivial rfl ?_
 refine .w (op_storeRow (by kernel_rfl) rfl rfl rfl rfl rfl (rfl) (rfl)) trivial rfl ?_
 refine .q (op_assign rfl) trivial rfl ?_
 refine .q (op_assign rfl) trivial rfl ?_
 refine .nil ?_
 show Ev _ _ _ _ _
 refine .ret ?_
 show RetOk _ _ _ _ _ _ _
 exact retc3 rfl (.inl rfl) ⟨_, _, _, _, rfl, rfl, rfl, rfl, rfl, Tryd.underlying45, rfl, sz45⟩ rfl rfl ⟨rfl, rfl, trivial⟩
set_option maxRecDepth 100000 in
theorem tkF_ev (a b c ep : Int) {M : List (Ls × Nat)} {ck : Nat} {L : List Ls} (h : MI M ck L) {t al : List UInt8} (hn : ∀ x ∈ L, ¬ (x.t = t ∧ x.a = al)) (w now : Int) (hvt : nameN t = true) (hva : nameN al = true) (eo : Nat → Nat × Nat) (hq : ¬ a ≤ ((L.filter (fun x => x.t == t)).length : Nat)) (hf : b ≤ (L.length : Nat))  : Meets Tryd.prog 19 [.ptr 500 0, .str t, .str al, .i64 w, .i64 now] [(500, some ⟨.agg [.i64 a, .i64 b, .i64 c, .mp 501, .i64 ep], 68, true⟩), (501, some ⟨mpV (M) (ck), 0, true⟩), (3, some ⟨.agg [.err 155 (1) (offE eo (1))], errT, false⟩), (4, some ⟨.agg [.err 155 (2) (offE eo (2))], errT, false⟩), (5, some ⟨.agg [.err 155 (3) (offE eo (3))], errT, false⟩), (6, some ⟨.agg [.err 155 (4) (offE eo (4))], errT, false⟩), (7, some ⟨.agg [.err 155 (5) (offE eo (5))], errT, false⟩), (8, some ⟨.agg [.err 155 (6) (offE eo (6))], errT, false⟩), (9, some ⟨.agg [.err 155 (7) (offE eo (7))], errT, false⟩), (2, some ⟨.agg [.err 155 (8) (offE eo (8))], errT, false⟩), (1, some ⟨.agg [.err 155 (9) (offE eo (9))], errT, false⟩), (10, some ⟨.agg [.err 155 (10) (offE eo (10))], errT, false⟩), (11, some ⟨.agg [.err 155 (11) (offE eo (11))], errT, false⟩), (12, some ⟨.agg [.err 155 (12) (offE eo (12))], errT, false⟩), (13, some ⟨.agg [.err 155 (13) (offE eo (13))], errT, false⟩), (14, some ⟨.agg [.err 155 (14) (offE eo (14))], errT, false⟩), (15, some ⟨.agg [.err 155 (15) (offE eo (15))], errT, false⟩), (16, some ⟨.agg [.err 155 (16) (offE eo (16))], errT, false⟩), (0, some ⟨.agg [.err 155 (17) (offE eo (17))], errT, false⟩), (17, some ⟨.agg [.err 155 (18) (offE eo (18))], errT, false⟩), (18, some ⟨.agg [.err 155 (19) (offE eo (19))], errT, false⟩), (19, some ⟨.agg [.err 155 (20) (offE eo (20))], errT, false⟩), (401, some ⟨.agg [], errT, false⟩), (402, some ⟨.agg [], errT, false⟩), (403, some ⟨.agg [], errT, false⟩), (404, some ⟨.agg [], errT, false⟩), (405, some ⟨.agg [], errT, false⟩), (406, some ⟨.agg [], errT, false⟩), (407, some ⟨.agg [], errT, false⟩), (408, some ⟨.agg [], errT, false⟩), (409, some ⟨.agg [], errT, false⟩), (410, some ⟨.agg [], errT, false⟩), (411, some ⟨.agg [], errT, false⟩), (412, some ⟨.agg [], errT, false⟩), (413, some ⟨.agg [], errT, false⟩), (414, some ⟨.agg [], errT, false⟩), (415, some ⟨.agg [], errT, false⟩), (416, some ⟨.agg [], errT, false⟩), (417, some ⟨.agg [], errT, false⟩), (418, some ⟨.agg [], errT, false⟩), (419, some ⟨.agg [], errT, false⟩), (420, some ⟨.agg [], errT, false⟩)] (.tup [.agg [.str [], .str [], .i64 0, .i64 0, .i64 0], .i64 (-1), .err 155 (7) (offE eo (7))]) [(500, some ⟨.agg [.i64 a, .i64 b, .i64 c, .mp 501, .i64 ep], 68, true⟩), (501, some ⟨mpV M ck, 0, true⟩)] := by
 refine meets_of_ev (nt := 74) Tryd.func19 rfl rfl (Nat.le_of_ble_eq_true rfl) ?_
 refine .seq ?_
 refine .region ?_
 refine .a (op_allocRow zero45 rel_zero45 rfl) trivial rfl ?_
 refine .q (op_assign rfl) trivial rfl ?_
 refine .q (op_assign rfl) trivial rfl ?_
 refine .nil ?_
 show Ev _ _ _ _ _
 refine .seq ?_
 refine .seq ?_
 refine .region ?_
 refine .q (op_move rfl) trivial rfl ?_
 refine .q (op_call (U := []) [] [] (nameN_ev (t) (by have := nameN_len hvt; omega)) Tryd.func9 (by kernel_rfl) rfl rfl rfl (⟨⟨_, rfl, rfl, rfl⟩, trivial⟩) (trivial) (trivial) (trivial) rfl) trivial rfl ?_
 refine .q (op_notB rfl) trivial rfl ?_
 refine .q (op_move rfl) trivial rfl ?_
 refine .know (b' := false) (by show (!nameN _) = false; rw [hvt]; rfl) ?_
 refine .q (op_move rfl) ⟨_, rfl, rfl⟩ rfl ?_
 refine .q (op_call (U := []) [] [] (nameN_ev (al) (by have := nameN_len hva; omega)) Tryd.func9 (by kernel_rfl) rfl rfl rfl (⟨⟨_, rfl, rfl, rfl⟩, trivial⟩) (trivial) (trivial) (trivial) rfl) ⟨_, rfl, rfl⟩ rfl ?_
 refine .q (op_notB rfl) ⟨_, rfl, rfl⟩ rfl ?_
 refine .q (op_pick_false rfl rfl rfl) trivial rfl ?_
 refine .nil ?_
 show Ev _ _ _ _ _
 refine .cond_false rfl (by first | rfl | (show (!nameN _) = false; rw [hva]; rfl)) ?_
 refine .skip ?_
 show Ev _ _ _ _ _
 refine .seq ?_
 refine .region ?_
 refine .q (op_assign rfl) trivial rfl ?_
 refine .nil ?_
 show Ev _ _ _ _ _
 refine .seq ?_
 refine .seq ?_
 refine .region ?_
 refine .q (op_move rfl) trivial rfl ?_
 refine .q (op_move rfl) trivial rfl ?_
 refine .q (op_move rfl) trivial rfl ?_
 refine .q (op_call (U := []) [(500, 500), (501, 501)] [] (findN_ev a b c ep h (mkLen (nameN_len hvt)) (mkLen (nameN_len hva)) hn eo) Tryd.func20 (by kernel_rfl) rfl rfl rfl (⟨⟨_, rfl, rfl, rfl⟩, ⟨_, rfl, rfl, rfl⟩, ⟨_, rfl, rfl, rfl⟩, trivial⟩) (⟨⟨_, _, rfl, rfl, rfl, rfl, (fun h => by cases h), rfl⟩, ⟨_, _, rfl, rfl, rfl, rfl, (fun h => by cases h), rfl⟩, ⟨_, _, rfl, rfl, rfl, rfl, (fun h => by cases h), rfl⟩, trivial⟩) (trivial) (⟨(fun h => by cases h), (fun h => by cases h), (fun h => by cases h), trivial⟩) rfl) trivial rfl ?_
 refine .q (op_move rfl) trivial rfl ?_
 refine .q (op_extract rfl rfl) trivial rfl ?_
 refine .q (op_extract rfl rfl) trivial rfl ?_
 refine .a (op_allocRow zero45 rel_zero45 rfl) trivial rfl ?_
 refine .w (op_storeRow (by kernel_rfl) rfl rfl rfl rfl rfl (rfl) (rfl)) trivial rfl ?_
 refine .q (op_assign rfl) trivial rfl ?_
 refine .nil ?_
 show Ev _ _ _ _ _
 refine .seq ?_
 refine .region ?_
 refine .q (op_move rfl) trivial rfl ?_
 refine .q (op_eqErrNil (e := 8) Tryd.underlying47 rfl rfl) trivial rfl ?_
 refine .nil ?_
 show Ev _ _ _ _ _
 refine .cond_false rfl (rfl) ?_
 refine .seq ?_
 refine .region ?_
 refine .q (op_move rfl) trivial rfl ?_
 refine .q (op_move rfl) trivial rfl ?_
 refine .q (op_call (U := []) [(500, 500), (501, 501)] [] (roomF_ev a b c ep h t eo hq hf) Tryd.func38 (by kernel_rfl) rfl rfl rfl (⟨⟨_, rfl, rfl, rfl⟩, ⟨_, rfl, rfl, rfl⟩, trivial⟩) (⟨⟨_, _, rfl, rfl, rfl, rfl, (fun h => by cases h), rfl⟩, ⟨_, _, rfl, rfl, rfl, rfl, (fun h => by cases h), rfl⟩, ⟨_, _, rfl, rfl, rfl, rfl, (fun h => by cases h), rfl⟩, trivial⟩) (trivial) (⟨(fun h => by cases h), (fun h => by cases h), (fun h => by cases h), trivial⟩) rfl) trivial rfl ?_
 refine .q (op_assign rfl) trivial rfl ?_
 refine .nil ?_
 show Ev _ _ _ _ _
 refine .seq ?_
 refine .region ?_
 refine .q (op_move rfl) trivial rfl ?_
 refine .q (op_eqErrNil (e := 7) Tryd.underlying47 rfl rfl) trivial rfl ?_
 refine .nil ?_
 show Ev _ _ _ _ _
 refine .cond_true rfl (rfl) ?_
 refine .seq ?_
 refine .region ?_
 refine .q (op_buildS (r := .agg _) Tryd.underlying45 rfl zero45 rel_zero45 rfl rfl rfl rfl) trivial rfl ?_
 refine .q (op_move rfl) trivial rfl ?_
 refine .w (op_storeRow (by kernel_rfl) rfl rfl rfl rfl rfl (rfl) (rfl)) trivial rfl ?_
 refine .q (op_assign rfl) trivial rfl ?_
 refine .q (op_assign rfl) trivial rfl ?_
 refine .nil ?_
 show Ev _ _ _ _ _
 refine .ret ?_
 show RetOk _ _ _ _ _ _ _
 exact retc3 rfl (.inl rfl) ⟨_, _, _, _, rfl, rfl, rfl, rfl, rfl, Tryd.underlying45, rfl, sz45⟩ rfl rfl ⟨rfl, rfl, trivial⟩
set_option maxRecDepth 100000 in
theorem tkI_ev (a b c ep : Int) {M : List (Ls × Nat)} {ck : Nat} {L : List Ls} (h : MI M ck L) {t al : List UInt8} (hn : ∀ x ∈ L, ¬ (x.t = t ∧ x.a = al)) (w now : Int) (hvt : nameN t = true) (hva : nameN al = true) (eo : Nat → Nat × Nat) (hq : ¬ a ≤ ((L.filter (fun x => x.t == t)).length : Nat)) (hf : ¬ b ≤ (L.length : Nat)) (hep : 0 ≤ ep ∧ ep ≤ 1000000000)  : Meets Tryd.prog 19 [.ptr 500 0, .str t, .str al, .i64 w, .i64 now] [(500, some ⟨.agg [.i64 a, .i64 b, .i64 c, .mp 501, .i64 ep], 68, true⟩), (501, some ⟨mpV (M) (ck), 0, true⟩), (3, some ⟨.agg [.err 155 (1) (offE eo (1))], errT, false⟩), (4, some ⟨.agg [.err 155 (2) (offE eo (2))], errT, false⟩), (5, some ⟨.agg [.err 155 (3) (offE eo (3))], errT, false⟩), (6, some ⟨.agg [.err 155 (4) (offE eo (4))], errT, false⟩), (7, some ⟨.agg [.err 155 (5) (offE eo (5))], errT, false⟩), (8, some ⟨.agg [.err 155 (6) (offE eo (6))], errT, false⟩), (9, some ⟨.agg [.err 155 (7) (offE eo (7))], errT, false⟩), (2, some ⟨.agg [.err 155 (8) (offE eo (8))], errT, false⟩), (1, some ⟨.agg [.err 155 (9) (offE eo (9))], errT, false⟩), (10, some ⟨.agg [.err 155 (10) (offE eo (10))], errT, false⟩), (11, some ⟨.agg [.err 155 (11) (offE eo (11))], errT, false⟩), (12, some ⟨.agg [.err 155 (12) (offE eo (12))], errT, false⟩), (13, some ⟨.agg [.err 155 (13) (offE eo (13))], errT, false⟩), (14, some ⟨.agg [.err 155 (14) (offE eo (14))], errT, false⟩), (15, some ⟨.agg [.err 155 (15) (offE eo (15))], errT, false⟩), (16, some ⟨.agg [.err 155 (16) (offE eo (16))], errT, false⟩), (0, some ⟨.agg [.err 155 (17) (offE eo (17))], errT, false⟩), (17, some ⟨.agg [.err 155 (18) (offE eo (18))], errT, false⟩), (18, some ⟨.agg [.err 155 (19) (offE eo (19))], errT, false⟩), (19, some ⟨.agg [.err 155 (20) (offE eo (20))], errT, false⟩), (401, some ⟨.agg [], errT, false⟩), (402, some ⟨.agg [], errT, false⟩), (403, some ⟨.agg [], errT, false⟩), (404, some ⟨.agg [], errT, false⟩), (405, some ⟨.agg [], errT, false⟩), (406, some ⟨.agg [], errT, false⟩), (407, some ⟨.agg [], errT, false⟩), (408, some ⟨.agg [], errT, false⟩), (409, some ⟨.agg [], errT, false⟩), (410, some ⟨.agg [], errT, false⟩), (411, some ⟨.agg [], errT, false⟩), (412, some ⟨.agg [], errT, false⟩), (413, some ⟨.agg [], errT, false⟩), (414, some ⟨.agg [], errT, false⟩), (415, some ⟨.agg [], errT, false⟩), (416, some ⟨.agg [], errT, false⟩), (417, some ⟨.agg [], errT, false⟩), (418, some ⟨.agg [], errT, false⟩), (419, some ⟨.agg [], errT, false⟩), (420, some ⟨.agg [], errT, false⟩)] (.tup [lsV ⟨t, al, w, ep + 1, tickV now⟩, .i64 (-1), .val .nilIface]) [(500, some ⟨.agg [.i64 a, .i64 b, .i64 c, .mp 501, .i64 (ep + 1)], 68, true⟩), (501, some ⟨mpV (putM M ck ⟨t, al, w, ep + 1, tickV now⟩).1 (putM M ck ⟨t, al, w, ep + 1, tickV now⟩).2, 0, true⟩)] := by
 refine meets_of_ev (nt := 74) Tryd.func19 rfl rfl (Nat.le_of_ble_eq_true rfl) ?_
 refine .seq ?_
 refine .region ?_
 refine .a (op_allocRow zero45 rel_zero45 rfl) trivial rfl ?_
 refine .q (op_assign rfl) trivial rfl ?_
 refine .q (op_assign rfl) trivial rfl ?_
 refine .nil ?_
 show Ev _ _ _ _ _
 refine .seq ?_
 refine .seq ?_
 refine .region ?_
 refine .q (op_move rfl) trivial rfl ?_
 refine .q (op_call (U := []) [] [] (nameN_ev (t) (by have := nameN_len hvt; omega)) Tryd.func9 (by kernel_rfl) rfl rfl rfl (⟨⟨_, rfl, rfl, rfl⟩, trivial⟩) (trivial) (trivial) (trivial) rfl) trivial rfl ?_
 refine .q (op_notB rfl) trivial rfl ?_
 refine .q (op_move rfl) trivial rfl ?_
 refine .know (b' := false) (by show (!nameN _) = false; rw [hvt]; rfl) ?_
 refine .q (op_move rfl) ⟨_, rfl, rfl⟩ rfl ?_
 refine .q (op_call (U := []) [] [] (nameN_ev (al) (by have := nameN_len hva; omega)) Tryd.func9 (by kernel_rfl) rfl rfl rfl (⟨⟨_, rfl, rfl, rfl⟩, trivial⟩) (trivial) (trivial) (trivial) rfl) ⟨_, rfl, rfl⟩ rfl ?_
 refine .q (op_notB rfl) ⟨_, rfl, rfl⟩ rfl ?_
 refine .q (op_pick_false rfl rfl rfl) trivial rfl ?_
 refine .nil ?_
 show Ev _ _ _ _ _
 refine .cond_false rfl (by first | rfl | (show (!nameN _) = false; rw [hva]; rfl)) ?_
 refine .skip ?_
 show Ev _ _ _ _ _
 refine .seq ?_
 refine .region ?_
 refine .q (op_assign rfl) trivial rfl ?_
 refine .nil ?_
 show Ev _ _ _ _ _
 refine .seq ?_
 refine .seq ?_
 refine .region ?_
 refine .q (op_move rfl) trivial rfl ?_
 refine .q (op_move rfl) trivial rfl ?_
 refine .q (op_move rfl) trivial rfl ?_
 refine .q (op_call (U := []) [(500, 500), (501, 501)] [] (findN_ev a b c ep h (mkLen (nameN_len hvt)) (mkLen (nameN_len hva)) hn eo) Tryd.func20 (by kernel_rfl) rfl rfl rfl (⟨⟨_, rfl, rfl, rfl⟩, ⟨_, rfl, rfl, rfl⟩, ⟨_, rfl, rfl, rfl⟩, trivial⟩) (⟨⟨_, _, rfl, rfl, rfl, rfl, (fun h => by cases h), rfl⟩, ⟨_, _, rfl, rfl, rfl, rfl, (fun h => by cases h), rfl⟩, ⟨_, _, rfl, rfl, rfl, rfl, (fun h => by cases h), rfl⟩, trivial⟩) (trivial) (⟨(fun h => by cases h), (fun h => by cases h), (fun h => by cases h), trivial⟩) rfl) trivial rfl ?_
 refine .q (op_move rfl) trivial rfl ?_
 refine .q (op_extract rfl rfl) trivial rfl ?_
 refine .q (op_extract rfl rfl) trivial rfl ?_
 refine .a (op_allocRow zero45 rel_zero45 rfl) trivial rfl ?_
 refine .w (op_storeRow (by kernel_rfl) rfl rfl rfl rfl rfl (rfl) (rfl)) trivial rfl ?_
 refine .q (op_assign rfl) trivial rfl ?_
 refine .nil ?_
 show Ev _ _ _ _ _
 refine .seq ?_
 refine .region ?_
 refine .q (op_move rfl) trivial rfl ?_
 refine .q (op_eqErrNil (e := 8) Tryd.underlying47 rfl rfl) trivial rfl ?_
 refine .nil ?_
 show Ev _ _ _ _ _
 refine .cond_false rfl (rfl) ?_
 refine .seq ?_
 refine .region ?_
 refine .q (op_move rfl) trivial rfl ?_
 refine .q (op_move rfl) trivial rfl ?_
 refine .q (op_call (U := []) [(500, 500), (501, 501)] [] (roomI_ev a b c ep h t hq hf) Tryd.func38 (by kernel_rfl) rfl rfl rfl (⟨⟨_, rfl, rfl, rfl⟩, ⟨_, rfl, rfl, rfl⟩, trivial⟩) (⟨⟨_, _, rfl, rfl, rfl, rfl, (fun h => by cases h), rfl⟩, ⟨_, _, rfl, rfl, rfl, rfl, (fun h => by cases h), rfl⟩, trivial⟩) (trivial) (⟨(fun h => by cases h), (fun h => by cases h), trivial⟩) rfl) trivial rfl ?_
 refine .q (op_assign rfl) trivial rfl ?_
 refine .nil ?_
 show Ev _ _ _ _ _
 refine .seq ?_
 refine .region ?_
 refine .q (op_move rfl) trivial rfl ?_
 refine .asR (.err 155 0 (0, 0)) (nil_err _ _) ?_
 refine .q (op_eqErrNil (e := 0) Tryd.underlying47 rfl rfl) trivial rfl ?_
 refine .nil ?_
 show Ev _ _ _ _ _
 refine .cond_false rfl (rfl) ?_
 refine .skip ?_
 show Ev _ _ _ _ _
 refine .seq ?_
 refine .region ?_
 refine .q (op_move rfl) trivial rfl ?_
 refine .q (op_nilCheck rfl) trivial rfl ?_
 refine .q (op_fieldAddr (m := 0) Tryd.underlying68 rfl (by kernel_rfl) rfl) trivial rfl ?_
 refine .as (.ptr 500 4) rfl ?_
 refine .q (op_load Tryd.underlying3 rfl rfl rfl rfl (by first | omega | (simp only [AV.len]; omega) | (simp only [AV.len, List.length_set]; omega) | assumption | (simp [AV.len]; done))) trivial rfl ?_
 refine .q (op_addI rfl rfl ⟨by omega, by omega⟩) trivial rfl ?_
 refine .q (op_nilCheck rfl) trivial rfl ?_
 refine .q (op_fieldAddr (m := 0) Tryd.underlying68 rfl (by kernel_rfl) rfl) trivial rfl ?_
 refine .as (.ptr 500 4) rfl ?_
 refine .w (op_store inf3.sz rfl rfl rfl rfl rfl (by first | omega | (simp only [AV.len]; omega) | (simp only [AV.len, List.length_set]; omega) | assumption | (simp [AV.len]; done))) trivial rfl ?_
 refine .nil ?_
 show Ev _ _ _ _ _
 refine .seq ?_
 refine .drawn [[], [], [], [], [3], [3, 4], [3, 4, 5], [], [7], [0, 1, 2, 3, 4, 5, 6, 7, 8], [], [0, 1, 2, 3, 4, 5, 6, 7, 8, 9, 10]] [6, 8, 10, 11] [11] (by kernel_rfl) (by kernel_rfl) rfl ?_
 show DK _ [0, 1, 2, 3, 4, 5, 6, 7, 8, 9, 10, 11] _ _ _
 refine .q rfl (op_move rfl) trivial ?_
 refine .q rfl (op_move rfl) trivial ?_
 refine .q rfl (op_move rfl) trivial ?_
 refine .q rfl (op_move rfl) trivial ?_
 refine .q rfl (op_nilCheck rfl) trivial ?_
 refine .q rfl (op_fieldAddr (m := 0) Tryd.underlying68 rfl (by kernel_rfl) rfl) trivial ?_
 refine .as (.ptr 500 4) rfl ?_
 refine .q rfl (op_load Tryd.underlying3 rfl rfl rfl rfl (by first | omega | (simp only [AV.len]; omega) | (simp only [AV.len, List.length_set]; omega) | assumption | (simp [AV.len]; done))) trivial ?_
 refine .q rfl (op_move rfl) trivial ?_
 refine .q rfl (op_call (U := []) [] [] (tick_ev now) Tryd.func39 (by kernel_rfl) rfl rfl rfl (⟨⟨_, rfl, rfl, rfl⟩, trivial⟩) (trivial) (trivial) (trivial) rfl) trivial ?_
 refine .q rfl (op_buildS (r := .agg _) Tryd.underlying45 rfl zero45 rel_zero45 rfl rfl rfl rfl) trivial ?_
 refine .a rfl (op_allocRow zero45 rel_zero45 rfl) trivial rfl rfl ?_
 refine .w rfl (op_storeRow (by kernel_rfl) rfl rfl rfl rfl rfl (rfl) (rfl)) trivial rfl rfl ?_
 refine .nil ?_
 show Ev _ _ _ _ _
 refine .seq ?_
 refine .region ?_
 refine .q (op_move rfl) trivial rfl ?_
 refine .q (op_loadRow Tryd.underlying45 rfl (by kernel_rfl) rfl rfl rfl (rfl)) trivial rfl ?_
 refine .a (op_call (U := [(501, some ⟨mpV (putM M ck ⟨t, al, w, ep + 1, tickV now⟩).1 (putM M ck ⟨t, al, w, ep + 1, tickV now⟩).2, 0, true⟩)]) [(500, 500), (501, 501)] [] (put_ev a b c (ep + 1) h ⟨t, al, w, ep + 1, tickV now⟩ ⟨nameN_len hvt, nameN_len hva⟩) Tryd.func40 (by kernel_rfl) rfl rfl rfl (⟨⟨_, rfl, rfl, rfl⟩, ⟨_, rfl, rfl, rfl⟩, trivial⟩) (⟨⟨_, _, rfl, rfl, rfl, rfl, (fun h => by cases h), rfl⟩, ⟨_, _, rfl, rfl, rfl, rfl, id, rfl⟩, trivial⟩) (⟨⟨501, _, rfl, rfl, rfl, rfl, .inr ⟨rfl, _, rfl, rfl⟩⟩, trivial⟩) (⟨(fun h => by cases h), (fun _ => ⟨501, _, rfl, rfl⟩), trivial⟩) rfl) trivial rfl ?_
 refine .nil ?_
 show Ev _ _ _ _ _
 refine .seq ?_
 refine .region ?_
 refine .q (op_loadRow Tryd.underlying45 rfl (by kernel_rfl) rfl rfl rfl (rfl)) trivial rfl ?_
 refine .q (op_move rfl) trivial rfl ?_
 refine .w (op_storeRow (by kernel_rfl) rfl rfl rfl rfl rfl (rfl) (rfl)) trivial rfl ?_
 refine .q (op_assign rfl) trivial rfl ?_
 refine .q (op_assign rfl) trivial rfl ?_
 refine .nil ?_
 show Ev _ _ _ _ _
 refine .ret ?_
 show RetOk _ _ _ _ _ _ _
 exact retc3 rfl (.inl rfl) ⟨_, _, _, _, rfl, rfl, rfl, rfl, rfl, Tryd.underlying45, rfl, sz45⟩ rfl rfl ⟨rfl, rfl, trivial⟩
theorem canc_all (a b c ep : Int) {M : List (Ls × Nat)} {ck : Nat} {L : List Ls} (h : MI M ck L) (eo : Nat → Nat × Nat) {T A : List UInt8} (hT : T.length ≤ maxLen) (hA : A.length ≤ maxLen) (w : Int) :
  ∃ M', MI M' ck (cancL L T A w) ∧ Meets Tryd.prog 21 [.ptr 500 0, .str T, .str A, .i64 w] [(500, some ⟨.agg [.i64 a, .i64 b, .i64 c, .mp 501, .i64 ep], 68, false⟩), (501, some ⟨mpV (M) (ck), 0, true⟩), (3, some ⟨.agg [.err 155 (1) (offE eo (1))], errT, false⟩), (4, some ⟨.agg [.err 155 (2) (offE eo (2))], errT, false⟩), (5, some ⟨.agg [.err 155 (3) (offE eo (3))], errT, false⟩), (6, some ⟨.agg [.err 155 (4) (offE eo (4))], errT, false⟩), (7, some ⟨.agg [.err 155 (5) (offE eo (5))], errT, false⟩), (8, some ⟨.agg [.err 155 (6) (offE eo (6))], errT, false⟩), (9, some ⟨.agg [.err 155 (7) (offE eo (7))], errT, false⟩), (2, some ⟨.agg [.err 155 (8) (offE eo (8))], errT, false⟩), (1, some ⟨.agg [.err 155 (9) (offE eo (9))], errT, false⟩), (10, some ⟨.agg [.err 155 (10) (offE eo (10))], errT, false⟩), (11, some ⟨.agg [.err 155 (11) (offE eo (11))], errT, false⟩), (12, some ⟨.agg [.err 155 (12) (offE eo (12))], errT, false⟩), (13, some ⟨.agg [.err 155 (13) (offE eo (13))], errT, false⟩), (14, some ⟨.agg [.err 155 (14) (offE eo (14))], errT, false⟩), (15, some ⟨.agg [.err 155 (15) (offE eo (15))], errT, false⟩), (16, some ⟨.agg [.err 155 (16) (offE eo (16))], errT, false⟩), (0, some ⟨.agg [.err 155 (17) (offE eo (17))], errT, false⟩), (17, some ⟨.agg [.err 155 (18) (offE eo (18))], errT, false⟩), (18, some ⟨.agg [.err 155 (19) (offE eo (19))], errT, false⟩), (19, some ⟨.agg [.err 155 (20) (offE eo (20))], errT, false⟩), (401, some ⟨.agg [], errT, false⟩), (402, some ⟨.agg [], errT, false⟩), (403, some ⟨.agg [], errT, false⟩), (404, some ⟨.agg [], errT, false⟩), (405, some ⟨.agg [], errT, false⟩), (406, some ⟨.agg [], errT, false⟩), (407, some ⟨.agg [], errT, false⟩), (408, some ⟨.agg [], errT, false⟩), (409, some ⟨.agg [], errT, false⟩), (410, some ⟨.agg [], errT, false⟩), (411, some ⟨.agg [], errT, false⟩), (412, some ⟨.agg [], errT, false⟩), (413, some ⟨.agg [], errT, false⟩), (414, some ⟨.agg [], errT, false⟩), (415, some ⟨.agg [], errT, false⟩), (416, some ⟨.agg [], errT, false⟩), (417, some ⟨.agg [], errT, false⟩), (418, some ⟨.agg [], errT, false⟩), (419, some ⟨.agg [], errT, false⟩), (420, some ⟨.agg [], errT, false⟩)] .hole [(501, some ⟨mpV M' ck, 0, true⟩)] := by
 by_cases hx : ∃ x ∈ L, x.t = T ∧ x.a = A
 ·obtain ⟨x, hx, h1, h2⟩ := hx
  subst h1; subst h2
  by_cases hw : x.o = w
  ·have e : cancL L x.t x.a w = remL L x := by
    unfold cancL remL
    refine List.filter_congr fun y hy => ?_
    congr 1
    refine decide_eq_decide.2 ⟨fun k => ⟨k.1, k.2.1⟩, fun k => ?_⟩
    have := h.asc.same hy hx k
    subst this
    exact ⟨rfl, rfl, hw⟩
   exact ⟨_, e ▸ h.del x, (cancYH_ev a b c ep h hx w hw eo).holeV⟩
  ·have e : cancL L x.t x.a w = L := List.filter_eq_self.2 fun y hy => by
    rw [decide_eq_false]; · rfl
    rintro ⟨k1, k2, k3⟩
    have := h.asc.same hy hx ⟨k1, k2⟩
    subst this
    exact hw k3
   exact ⟨M, by rw [e]; exact h, (cancOH_ev a b c ep h hx w hw eo).holeV⟩
 ·have hn : ∀ x ∈ L, ¬ (x.t = T ∧ x.a = A) := fun x hx' e => hx ⟨x, hx', e⟩
  have e : cancL L T A w = L := List.filter_eq_self.2 fun y hy => by
   rw [decide_eq_false]; · rfl
   rintro ⟨k1, k2, _⟩
   exact hn y hy ⟨k1, k2⟩
  exact ⟨M, by rw [e]; exact h, (cancNH_ev a b c ep h hT hA hn w eo).holeV⟩
theorem tkO_in (a b : Int) (L : List Ls) (T A : List UInt8) (w : Int) : (tkO a b L T A w).1 = 0 ∨ (tkO a b L T A w).1 = 7 ∨ (tkO a b L T A w).1 = 9 ∨ (tkO a b L T A w).1 = 16 ∨ (tkO a b L T A w).1 = 17 := by
 unfold tkO
 split
 ·exact .inr (.inr (.inr (.inr rfl)))
 ·split
  ·split
   ·exact .inr (.inr (.inl rfl))
   ·exact .inl rfl
  ·split
   ·exact .inr (.inr (.inr (.inl rfl)))
   ·split
    ·exact .inr (.inl rfl)
    ·exact .inl rfl
theorem codeT_ev (eo : Nat → Nat × Nat) (hd : ∀ i j, i < 20 → j < 20 → i ≠ j → eo i ≠ eo j) {k : Nat} (hk : k = 0 ∨ k = 7 ∨ k = 9 ∨ k = 16 ∨ k = 17) : Meets Tryd.prog 25 [.err 155 k (offE eo k)] [(3, some ⟨.agg [.err 155 (1) (offE eo (1))], errT, false⟩), (4, some ⟨.agg [.err 155 (2) (offE eo (2))], errT, false⟩), (5, some ⟨.agg [.err 155 (3) (offE eo (3))], errT, false⟩), (6, some ⟨.agg [.err 155 (4) (offE eo (4))], errT, false⟩), (7, some ⟨.agg [.err 155 (5) (offE eo (5))], errT, false⟩), (8, some ⟨.agg [.err 155 (6) (offE eo (6))], errT, false⟩), (9, some ⟨.agg [.err 155 (7) (offE eo (7))], errT, false⟩), (2, some ⟨.agg [.err 155 (8) (offE eo (8))], errT, false⟩), (1, some ⟨.agg [.err 155 (9) (offE eo (9))], errT, false⟩), (10, some ⟨.agg [.err 155 (10) (offE eo (10))], errT, false⟩), (11, some ⟨.agg [.err 155 (11) (offE eo (11))], errT, false⟩), (12, some ⟨.agg [.err 155 (12) (offE eo (12))], errT, false⟩), (13, some ⟨.agg [.err 155 (13) (offE eo (13))], errT, false⟩), (14, some ⟨.agg [.err 155 (14) (offE eo (14))], errT, false⟩), (15, some ⟨.agg [.err 155 (15) (offE eo (15))], errT, false⟩), (16, some ⟨.agg [.err 155 (16) (offE eo (16))], errT, false⟩), (0, some ⟨.agg [.err 155 (17) (offE eo (17))], errT, false⟩), (17, some ⟨.agg [.err 155 (18) (offE eo (18))], errT, false⟩), (18, some ⟨.agg [.err 155 (19) (offE eo (19))], errT, false⟩), (19, some ⟨.agg [.err 155 (20) (offE eo (20))], errT, false⟩), (401, some ⟨.agg [], errT, false⟩), (402, some ⟨.agg [], errT, false⟩), (403, some ⟨.agg [], errT, false⟩), (404, some ⟨.agg [], errT, false⟩), (405, some ⟨.agg [], errT, false⟩), (406, some ⟨.agg [], errT, false⟩), (407, some ⟨.agg [], errT, false⟩), (408, some ⟨.agg [], errT, false⟩), (409, some ⟨.agg [], errT, false⟩), (410, some ⟨.agg [], errT, false⟩), (411, some ⟨.agg [], errT, false⟩), (412, some ⟨.agg [], errT, false⟩), (413, some ⟨.agg [], errT, false⟩), (414, some ⟨.agg [], errT, false⟩), (415, some ⟨.agg [], errT, false⟩), (416, some ⟨.agg [], errT, false⟩), (417, some ⟨.agg [], errT, false⟩), (418, some ⟨.agg [], errT, false⟩), (419, some ⟨.agg [], errT, false⟩), (420, some ⟨.agg [], errT, false⟩)] (.i64 (k : Int)) [] := by
 rcases hk with rfl | rfl | rfl | rfl | rfl
 ·exact code_0 eo hd
 ·exact code_7 eo hd
 ·exact code_9 eo hd
 ·exact code_16 eo hd
 ·exact code_17 eo hd
theorem take_all (a b c ep : Int) {M : List (Ls × Nat)} {ck : Nat} {L : List Ls} (h : MI M ck L) (hb4 : b ≤ 4096) (hep : 0 ≤ ep ∧ ep ≤ 1000000000) (eo : Nat → Nat × Nat) {T A : List UInt8} (hT : T.length ≤ 9223372036854775000) (hA : A.length ≤ 9223372036854775000) (w now : Int) :
  ∃ M' ck', MI M' ck' (tkL a b ep L T A w now) ∧ Meets Tryd.prog 19 [.ptr 500 0, .str T, .str A, .i64 w, .i64 now] [(500, some ⟨.agg [.i64 a, .i64 b, .i64 c, .mp 501, .i64 ep], 68, true⟩), (501, some ⟨mpV (M) (ck), 0, true⟩), (3, some ⟨.agg [.err 155 (1) (offE eo (1))], errT, false⟩), (4, some ⟨.agg [.err 155 (2) (offE eo (2))], errT, false⟩), (5, some ⟨.agg [.err 155 (3) (offE eo (3))], errT, false⟩), (6, some ⟨.agg [.err 155 (4) (offE eo (4))], errT, false⟩), (7, some ⟨.agg [.err 155 (5) (offE eo (5))], errT, false⟩), (8, some ⟨.agg [.err 155 (6) (offE eo (6))], errT, false⟩), (9, some ⟨.agg [.err 155 (7) (offE eo (7))], errT, false⟩), (2, some ⟨.agg [.err 155 (8) (offE eo (8))], errT, false⟩), (1, some ⟨.agg [.err 155 (9) (offE eo (9))], errT, false⟩), (10, some ⟨.agg [.err 155 (10) (offE eo (10))], errT, false⟩), (11, some ⟨.agg [.err 155 (11) (offE eo (11))], errT, false⟩), (12, some ⟨.agg [.err 155 (12) (offE eo (12))], errT, false⟩), (13, some ⟨.agg [.err 155 (13) (offE eo (13))], errT, false⟩), (14, some ⟨.agg [.err 155 (14) (offE eo (14))], errT, false⟩), (15, some ⟨.agg [.err 155 (15) (offE eo (15))], errT, false⟩), (16, some ⟨.agg [.err 155 (16) (offE eo (16))], errT, false⟩), (0, some ⟨.agg [.err 155 (17) (offE eo (17))], errT, false⟩), (17, some ⟨.agg [.err 155 (18) (offE eo (18))], errT, false⟩), (18, some ⟨.agg [.err 155 (19) (offE eo (19))], errT, false⟩), (19, some ⟨.agg [.err 155 (20) (offE eo (20))], errT, false⟩), (401, some ⟨.agg [], errT, false⟩), (402, some ⟨.agg [], errT, false⟩), (403, some ⟨.agg [], errT, false⟩), (404, some ⟨.agg [], errT, false⟩), (405, some ⟨.agg [], errT, false⟩), (406, some ⟨.agg [], errT, false⟩), (407, some ⟨.agg [], errT, false⟩), (408, some ⟨.agg [], errT, false⟩), (409, some ⟨.agg [], errT, false⟩), (410, some ⟨.agg [], errT, false⟩), (411, some ⟨.agg [], errT, false⟩), (412, some ⟨.agg [], errT, false⟩), (413, some ⟨.agg [], errT, false⟩), (414, some ⟨.agg [], errT, false⟩), (415, some ⟨.agg [], errT, false⟩), (416, some ⟨.agg [], errT, false⟩), (417, some ⟨.agg [], errT, false⟩), (418, some ⟨.agg [], errT, false⟩), (419, some ⟨.agg [], errT, false⟩), (420, some ⟨.agg [], errT, false⟩)] (.tup [lsV (tkX a b ep L T A w now), .i64 (tkO a b L T A w).2, .err 155 (tkO a b L T A w).1 (offE eo (tkO a b L T A w).1)]) [(500, some ⟨.agg [.i64 a, .i64 b, .i64 c, .mp 501, .i64 (tkE a b ep L T A w)], 68, true⟩), (501, some ⟨mpV M' ck', 0, true⟩)] := by
 rcases take_cases a b L T A w with hv | ⟨h1, h2⟩ | ⟨h1, h2, x, hx, rfl, rfl, hw⟩ | ⟨h1, h2, x, hx, rfl, rfl, hw⟩ | ⟨h1, h2, hn, hq⟩ | ⟨h1, h2, hn, hq, hf⟩ | ⟨h1, h2, hn, hq, hf⟩
 ·have e : tkO a b L T A w = (17, -1) := by unfold tkO; rw [if_pos (by rw [hv]; rfl)]
  refine ⟨M, ck, by unfold tkL; rw [e]; exact h, ?_⟩
  unfold tkE tkX; rw [e]
  exact (tkV1_ev a b c ep h T A w now eo hT hA hv)
 ·have e : tkO a b L T A w = (17, -1) := by unfold tkO; rw [if_pos (by rw [h1, h2]; rfl)]
  refine ⟨M, ck, by unfold tkL; rw [e]; exact h, ?_⟩
  unfold tkE tkX; rw [e]
  exact (tkV2_ev a b c ep h T A w now eo hT hA h1 h2)
 ·have e : tkO a b L x.t x.a w = (9, -1) := by unfold tkO; rw [if_neg (by rw [h1, h2]; decide), ownr_yes h.asc hx]; exact if_pos hw
  refine ⟨M, ck, by unfold tkL; rw [e]; exact h, ?_⟩
  unfold tkE tkX; rw [e]
  exact (tkH_ev a b c ep h hx w now h1 h2 hw eo)
 ·have e : tkO a b L x.t x.a w = (0, x.o) := by unfold tkO; rw [if_neg (by rw [h1, h2]; decide), ownr_yes h.asc hx]; exact if_neg hw
  refine ⟨(putM M ck ⟨x.t, x.a, w, ep + 1, tickV now⟩).1, (putM M ck ⟨x.t, x.a, w, ep + 1, tickV now⟩).2, ?_, ?_⟩
  rotate_left 1
  ·unfold tkE tkX; rw [e]
   exact (tkO_ev a b c ep h hx w now h1 h2 hw eo hep).weakV (tup_last (nil_errV _ _))
  ·unfold tkL; rw [e]
   exact h.ins ⟨nameN_len h1, nameN_len h2⟩ (.inl ⟨x, hx, rfl, rfl⟩)
 ·have e : tkO a b L T A w = (16, -1) := by unfold tkO; rw [if_neg (by rw [h1, h2]; decide), ownr_no hn]; exact if_pos hq
  refine ⟨M, ck, by unfold tkL; rw [e]; exact h, ?_⟩
  unfold tkE tkX; rw [e]
  exact (tkQ_ev a b c ep h hn w now h1 h2 eo hq)
 ·have e : tkO a b L T A w = (7, -1) := by unfold tkO; rw [if_neg (by rw [h1, h2]; decide), ownr_no hn]; exact (if_neg hq).trans (if_pos hf)
  refine ⟨M, ck, by unfold tkL; rw [e]; exact h, ?_⟩
  unfold tkE tkX; rw [e]
  exact (tkF_ev a b c ep h hn w now h1 h2 eo hq hf)
 ·have e : tkO a b L T A w = (0, -1) := by unfold tkO; rw [if_neg (by rw [h1, h2]; decide), ownr_no hn]; exact (if_neg hq).trans (if_neg hf)
  refine ⟨(putM M ck ⟨T, A, w, ep + 1, tickV now⟩).1, (putM M ck ⟨T, A, w, ep + 1, tickV now⟩).2, ?_, ?_⟩
  rotate_left 1
  ·unfold tkE tkX; rw [e]
   exact (tkI_ev a b c ep h hn w now h1 h2 eo hq hf hep).weakV (tup_last (nil_errV _ _))
  ·unfold tkL; rw [e]
   exact h.ins ⟨nameN_len h1, nameN_len h2⟩ (.inr (by omega))
end Go.Proofs.YticickigndgpcaaDoor
namespace Go.Proofs.YticickigndgpcaaDoor
open Go.RowKit
set_option maxRecDepth 100000 in
theorem filtW_ev (a b c ep : Int) {M : List (Ls × Nat)} {ck : Nat} {L : List Ls} (h : MI M ck L) (hne : L ≠ [])  : Meets Tryd.prog 35 [.ptr 500 0, .val (.func (.func 36) #[] #[])] [(500, some ⟨.agg [.i64 a, .i64 b, .i64 c, .mp 501, .i64 ep], 68, false⟩), (501, some ⟨mpV (M) (ck), 0, false⟩)] (.sl 1016 0 (L.filter (fun _ => true)).length 5) [(1016, some ⟨.agg (lsC (L.filter (fun _ => true))), 45, true⟩)] := by
 refine meets_of_ev (nt := 27) Tryd.func35 rfl rfl (Nat.le_of_ble_eq_true rfl) ?_
 refine .seq ?_
 refine .region ?_
 refine .q (op_assign rfl) trivial rfl ?_
 refine .nil ?_
 show Ev _ _ _ _ _
 refine .seq ?_
 refine .region ?_
 refine .q (op_assign rfl) trivial rfl ?_
 refine .nil ?_
 show Ev _ _ _ _ _
 refine .seq ?_
 refine .seq ?_
 refine .region ?_
 refine .q (op_move rfl) trivial rfl ?_
 refine .q (op_nilCheck rfl) trivial rfl ?_
 refine .q (op_fieldAddr (m := 0) Tryd.underlying68 rfl (by kernel_rfl) rfl) trivial rfl ?_
 refine .as (.ptr 500 3) rfl ?_
 refine .q (op_load Tryd.underlying66 rfl rfl rfl rfl (by first | omega | (simp only [AV.len]; omega) | (simp only [AV.len, List.length_set]; omega) | assumption | (simp [AV.len]; done))) trivial rfl ?_
 refine .a (op_range 0 Tryd.underlying66 rfl rfl rfl) trivial rfl ?_
 refine .nil ?_
 show Ev _ _ _ _ _
 refine .block ?_
 refine Ev.loop (ι := { q : FS M (fun _ => true) // q.F = [] } ⊕ FS M (fun _ => true)) (fun q => match q with | .inl q => ⟨[(0, .ptr 500 0), (1, .val (.func (.func 36) #[] #[])), (5, .nilsl), (12, .ptr 1000 0)], [(1000, some ⟨.iter 501 ck q.1.seen ck, 0, true⟩), (500, some ⟨.agg [.i64 a, .i64 b, .i64 c, .mp 501, .i64 ep], 68, false⟩), (501, some ⟨mpV (M) (ck), 0, false⟩)], 1024⟩ | .inr q => ⟨[(0, .ptr 500 0), (1, .val (.func (.func 36) #[] #[])), (5, .sl 1016 0 q.F.length 5), (12, .ptr 1000 0)], [(1000, some ⟨.iter 501 ck q.seen ck, 0, true⟩), (1016, some ⟨.agg (lsC q.F), 45, true⟩), (500, some ⟨.agg [.i64 a, .i64 b, .i64 c, .mp 501, .i64 ep], 68, false⟩), (501, some ⟨mpV (M) (ck), 0, false⟩)], 1024⟩) (fun q => match q with | .inl q => FS.mu M q.1.seen | .inr q => FS.mu M q.seen) (.inl ⟨⟨[], [], FS.none0 M _⟩, rfl⟩) (StLe.mk [(1000, 1000)] rfl rfl ⟨⟨_, rfl, by rfl, rfl⟩, ⟨_, rfl, by rfl, rfl⟩, ⟨_, rfl, by rfl, rfl⟩, ⟨_, rfl, by rfl, rfl⟩, trivial⟩ ⟨⟨_, _, rfl, rfl, by rfl, rfl, id, rfl⟩, ⟨_, _, rfl, rfl, rfl, rfl, id, rfl⟩, ⟨_, _, rfl, rfl, rfl, rfl, id, rfl⟩, trivial⟩) ?_
 rintro (⟨⟨seen, F, hp⟩, hF⟩ | ⟨seen, F, hp⟩)
 ·try dsimp only at hF
  show Ev _ _ _ ⟨[(0, .ptr 500 0), (1, .val (.func (.func 36) #[] #[])), (5, .nilsl), (12, .ptr 1000 0)], [(1000, some ⟨.iter 501 ck seen ck, 0, true⟩), (500, some ⟨.agg [.i64 a, .i64 b, .i64 c, .mp 501, .i64 ep], 68, false⟩), (501, some ⟨mpV (M) (ck), 0, false⟩)], 1024⟩ _
  refine .seq ?_
  refine .region ?_
  refine dite (∃ n ∈ mBs M, n ∉ seen) (fun hs => ?_) (fun hs => ?_)
  ·refine .ax (op_nextX (q := 1000) (b := 501) (seen := seen) (since := ck) (last := ck) (kA := fun _ => .hole) (vA := fun _ => .hole) rfl rfl rfl (mpV_ents _ _) h.blt (Nat.le_refl _) hs (fun _ _ _ E => .hole _) (fun _ _ _ E _ _ => .hole _)) trivial rfl (fun j => ?_)
   obtain ⟨j, n, hj, hn⟩ := j
   simp only [bs_getD hj]
   show EvL _ _ _ _ _ _
   refine .q (op_extract rfl rfl) trivial rfl ?_
   refine .nil ?_
   show Ev _ _ _ _ _
   refine .seq ?_
   refine .cond_true rfl (rfl) ?_
   refine .skip ?_
   show Ev _ _ _ _ _
   refine .block ?_
   refine .seq ?_
   refine .region ?_
   refine .q (op_entry (q := 1000) (b := 501) (i := j) (n := n) (seen := seen) (since := ck) (kA := .hole) (vA := lsV (atM M j)) rfl rfl rfl (mpV_ents _ _) hj (h.bUniq hj) (fun _ _ E => .hole _) (fun v hv E y hy => ls_of _ E y (by rw [mVs_at (atM_eq hj)] at hv; injection hv with hv; subst hv; exact hy))) trivial rfl ?_
   refine .q (op_extract rfl rfl) trivial rfl ?_
   refine .a (op_allocRow zero45 rel_zero45 rfl) trivial rfl ?_
   refine .w (op_storeRow (by kernel_rfl) rfl rfl rfl rfl rfl (rfl) (rfl)) trivial rfl ?_
   refine .nil ?_
   show Ev _ _ _ _ _
   refine .seq ?_
   refine .region ?_
   refine .q (op_move rfl) trivial rfl ?_
   refine .asR (.clo 36 []) (fn_clo _) ?_
   refine .q (op_loadRow Tryd.underlying45 rfl (by kernel_rfl) rfl rfl rfl (rfl)) trivial rfl ?_
   refine .q (op_callClo (args := [lsV (atM M j)]) (args2 := []) (U := []) [] [] (allc_ev (atM M j)) Tryd.func36 (by kernel_rfl) rfl rfl rfl rfl rfl rfl ⟨⟨_, rfl, rfl, rfl⟩, trivial⟩ trivial trivial trivial rfl) trivial rfl ?_
   refine .nil ?_
   show Ev _ _ _ _ _
   refine .cond_true rfl (rfl) ?_
   refine .region ?_
   refine .q (op_move rfl) trivial rfl ?_
   refine .q (op_loadRow Tryd.underlying45 rfl (by kernel_rfl) rfl rfl rfl (rfl)) trivial rfl ?_
   refine .a (op_buildRow (z := 5) (r := lsV (atM M j)) (cs := Ls.cs (atM M j)) Tryd.underlying39 infLease (by decide) (by decide) rfl rfl rfl) trivial rfl ?_
   refine .a (ap_append_nil (c' := .agg (lsC [(atM M j)])) Tryd.underlying39 Tryd.underlying39 (.inr ⟨_, rfl⟩) infLease rfl (srcs_sl (m := 1) (o := 0) rfl rfl (by show 5 ≤ 5; decide)) rfl (by decide) (by decide)) trivial rfl ?_
   refine .q (op_assign rfl) trivial rfl ?_
   refine .nil ?_
   exact ⟨.inr ⟨seen ++ [n], [(atM M j)], by have := h.yes hj hn hp rfl; rw [hF] at this; exact this⟩, FS.less hj hn, StLe.mk [(1000, 1000), (1016, 1048)] rfl rfl ⟨⟨_, rfl, by rfl, rfl⟩, ⟨_, rfl, by rfl, rfl⟩, ⟨_, rfl, by rfl, rfl⟩, ⟨_, rfl, by rfl, rfl⟩, trivial⟩ ⟨⟨_, _, rfl, rfl, by rfl, rfl, id, rfl⟩, ⟨_, _, rfl, rfl, by exact lsC_ren _ _, rfl, id, lsC_nm _ _⟩, ⟨_, _, rfl, rfl, rfl, rfl, id, rfl⟩, ⟨_, _, rfl, rfl, rfl, rfl, id, rfl⟩, trivial⟩⟩
  ·refine .q (op_nextEnd (q := 1000) (b := 501) (seen := seen) (since := ck) (last := ck) rfl rfl rfl (mpV_ents _ _) h.blt (Nat.le_refl _) (fun n hn => Classical.not_not.1 fun hc => hs ⟨n, hn, hc⟩)) trivial rfl ?_
   refine .q (op_extract rfl rfl) trivial rfl ?_
   refine .nil ?_
   show Ev _ _ _ _ _
   refine .seq ?_
   refine .cond_false rfl (rfl) ?_
   refine .exit ?_
   show Ev _ _ _ _ _
   refine .seq ?_
   refine .region ?_
   have hall : ∀ n ∈ mBs M, n ∈ seen := fun n hn => Classical.not_not.1 fun hc => hs ⟨n, hn, hc⟩
   have hfin := h.all hp hall
   refine .q (op_move rfl) trivial rfl ?_
   refine .q (op_call (U := []) [] [] (sortNil_ev) Tryd.func50 (by kernel_rfl) rfl rfl rfl (⟨⟨_, rfl, rfl, rfl⟩, ⟨_, rfl, rfl, rfl⟩, trivial⟩) (trivial) (trivial) (trivial) rfl) trivial rfl ?_
   refine .nil ?_
   show Ev _ _ _ _ _
   refine .seq ?_
   refine .region ?_
   refine .q (op_move rfl) trivial rfl ?_
   refine .q (op_assign rfl) trivial rfl ?_
   refine .nil ?_
   show Ev _ _ _ _ _
   refine .ret ?_
   show RetOk _ _ _ _ _ _ _
   first
    | exact absurd (by have hz : L.filter (fun _ => true) = [] := List.eq_nil_of_length_eq_zero (by rw [← hfin.length_eq, hF]; rfl); rwa [filter_tt] at hz) hne
    | exact ret1v rfl (.inl rfl) rfl (by rw [hfin.length_eq]) ⟨rfl, trivial⟩
 ·show Ev _ _ _ ⟨[(0, .ptr 500 0), (1, .val (.func (.func 36) #[] #[])), (5, .sl 1016 0 F.length 5), (12, .ptr 1000 0)], [(1000, some ⟨.iter 501 ck seen ck, 0, true⟩), (1016, some ⟨.agg (lsC F), 45, true⟩), (500, some ⟨.agg [.i64 a, .i64 b, .i64 c, .mp 501, .i64 ep], 68, false⟩), (501, some ⟨mpV (M) (ck), 0, false⟩)], 1024⟩ _
  refine .seq ?_
  refine .region ?_
  refine dite (∃ n ∈ mBs M, n ∉ seen) (fun hs => ?_) (fun hs => ?_)
  ·refine .ax (op_nextX (q := 1000) (b := 501) (seen := seen) (since := ck) (last := ck) (kA := fun _ => .hole) (vA := fun _ => .hole) rfl rfl rfl (mpV_ents _ _) h.blt (Nat.le_refl _) hs (fun _ _ _ E => .hole _) (fun _ _ _ E _ _ => .hole _)) trivial rfl (fun j => ?_)
   obtain ⟨j, n, hj, hn⟩ := j
   simp only [bs_getD hj]
   show EvL _ _ _ _ _ _
   refine .q (op_extract rfl rfl) trivial rfl ?_
   refine .nil ?_
   show Ev _ _ _ _ _
   refine .seq ?_
   refine .cond_true rfl (rfl) ?_
   refine .skip ?_
   show Ev _ _ _ _ _
   refine .block ?_
   refine .seq ?_
   refine .region ?_
   refine .q (op_entry (q := 1000) (b := 501) (i := j) (n := n) (seen := seen) (since := ck) (kA := .hole) (vA := lsV (atM M j)) rfl rfl rfl (mpV_ents _ _) hj (h.bUniq hj) (fun _ _ E => .hole _) (fun v hv E y hy => ls_of _ E y (by rw [mVs_at (atM_eq hj)] at hv; injection hv with hv; subst hv; exact hy))) trivial rfl ?_
   refine .q (op_extract rfl rfl) trivial rfl ?_
   refine .a (op_allocRow zero45 rel_zero45 rfl) trivial rfl ?_
   refine .w (op_storeRow (by kernel_rfl) rfl rfl rfl rfl rfl (rfl) (rfl)) trivial rfl ?_
   refine .nil ?_
   show Ev _ _ _ _ _
   refine .seq ?_
   refine .region ?_
   refine .q (op_move rfl) trivial rfl ?_
   refine .asR (.clo 36 []) (fn_clo _) ?_
   refine .q (op_loadRow Tryd.underlying45 rfl (by kernel_rfl) rfl rfl rfl (rfl)) trivial rfl ?_
   refine .q (op_callClo (args := [lsV (atM M j)]) (args2 := []) (U := []) [] [] (allc_ev (atM M j)) Tryd.func36 (by kernel_rfl) rfl rfl rfl rfl rfl rfl ⟨⟨_, rfl, rfl, rfl⟩, trivial⟩ trivial trivial trivial rfl) trivial rfl ?_
   refine .nil ?_
   show Ev _ _ _ _ _
   refine .cond_true rfl (rfl) ?_
   refine .region ?_
   refine .q (op_move rfl) trivial rfl ?_
   refine .q (op_loadRow Tryd.underlying45 rfl (by kernel_rfl) rfl rfl rfl (rfl)) trivial rfl ?_
   refine .a (op_buildRow (z := 5) (r := lsV (atM M j)) (cs := Ls.cs (atM M j)) Tryd.underlying39 infLease (by decide) (by decide) rfl rfl rfl) trivial rfl ?_
   refine .a (ap_append (c' := .agg (lsC (F ++ [(atM M j)]))) Tryd.underlying39 Tryd.underlying39 (.inr ⟨_, rfl⟩) infLease rfl rfl rfl rfl (lsC_len F) (srcs_sl (m := 1) (o := 0) rfl rfl (by show 5 ≤ 5; decide)) (lsC_app F [(atM M j)]) (by have := h.few hp; omega)) trivial rfl ?_
   refine .q (op_assign rfl) trivial rfl ?_
   refine .nil ?_
   exact ⟨.inr ⟨seen ++ [n], F ++ [(atM M j)], h.yes hj hn hp rfl⟩, FS.less hj hn, StLe.mk [(1000, 1000), (1016, 1048)] rfl rfl ⟨⟨_, rfl, by rfl, rfl⟩, ⟨_, rfl, by rfl, rfl⟩, ⟨_, rfl, by exact slen F (atM M j), rfl⟩, ⟨_, rfl, by rfl, rfl⟩, trivial⟩ ⟨⟨_, _, rfl, rfl, by rfl, rfl, id, rfl⟩, ⟨_, _, rfl, rfl, by exact lsC_ren _ _, rfl, id, lsC_nm _ _⟩, ⟨_, _, rfl, rfl, rfl, rfl, id, rfl⟩, ⟨_, _, rfl, rfl, rfl, rfl, id, rfl⟩, trivial⟩⟩
  ·refine .q (op_nextEnd (q := 1000) (b := 501) (seen := seen) (since := ck) (last := ck) rfl rfl rfl (mpV_ents _ _) h.blt (Nat.le_refl _) (fun n hn => Classical.not_not.1 fun hc => hs ⟨n, hn, hc⟩)) trivial rfl ?_
   refine .q (op_extract rfl rfl) trivial rfl ?_
   refine .nil ?_
   show Ev _ _ _ _ _
   refine .seq ?_
   refine .cond_false rfl (rfl) ?_
   refine .exit ?_
   show Ev _ _ _ _ _
   refine .seq ?_
   refine .region ?_
   have hall : ∀ n ∈ mBs M, n ∈ seen := fun n hn => Classical.not_not.1 fun hc => hs ⟨n, hn, hc⟩
   have hfin := h.all hp hall
   refine .q (op_move rfl) trivial rfl ?_
   refine .a (op_call (U := [(1016, some ⟨.agg (lsC (L.filter (fun _ => true))), 45, true⟩)]) [(500, 1016)] [] (sort_ev hfin (h.asc.filter _) (by have := h.few hp; omega)) Tryd.func50 (by kernel_rfl) rfl rfl rfl (⟨⟨_, rfl, rfl, rfl⟩, ⟨_, rfl, rfl, rfl⟩, trivial⟩) (⟨⟨_, _, rfl, rfl, lsC_ren _ _, rfl, id, lsC_nmC _ _⟩, trivial⟩) (⟨⟨500, _, rfl, lsC_blk _ _ _ _, rfl, lsC_nmF _ _ _, .inr ⟨rfl, _, rfl, rfl⟩⟩, trivial⟩) (⟨(fun _ => ⟨1016, _, rfl, rfl⟩), trivial⟩) rfl) trivial rfl ?_
   refine .nil ?_
   show Ev _ _ _ _ _
   refine .seq ?_
   refine .region ?_
   refine .q (op_move rfl) trivial rfl ?_
   refine .q (op_assign rfl) trivial rfl ?_
   refine .nil ?_
   show Ev _ _ _ _ _
   refine .ret ?_
   show RetOk _ _ _ _ _ _ _
   first
    | exact absurd (by have hz : L.filter (fun _ => true) = [] := List.eq_nil_of_length_eq_zero (by rw [← hfin.length_eq, hF]; rfl); rwa [filter_tt] at hz) hne
    | exact ret1v rfl (.inl rfl) rfl (by rw [hfin.length_eq]) ⟨rfl, trivial⟩
set_option maxRecDepth 100000 in
theorem allW_ev (a b c ep : Int) {M : List (Ls × Nat)} {ck : Nat} {L : List Ls} (h : MI M ck L) (hne : L ≠ [])  : Meets Tryd.prog 16 [.ptr 500 0] [(500, some ⟨.agg [.i64 a, .i64 b, .i64 c, .mp 501, .i64 ep], 68, false⟩), (501, some ⟨mpV (M) (ck), 0, false⟩)] (.sl 1000 0 L.length 5) [(1000, some ⟨.agg (lsC L), 45, true⟩)] := by
 refine meets_of_ev (nt := 5) Tryd.func16 rfl rfl (Nat.le_of_ble_eq_true rfl) ?_
 refine .seq ?_
 refine .region ?_
 refine .q (op_assign rfl) trivial rfl ?_
 refine .nil ?_
 show Ev _ _ _ _ _
 refine .seq ?_
 refine .region ?_
 refine .q (op_move rfl) trivial rfl ?_
 refine .a (op_call (U := [(1000, some ⟨.agg (lsC (L.filter (fun _ => true))), 45, true⟩)]) [(500, 500), (501, 501)] [(1000, 1016)] (filtW_ev a b c ep h hne) Tryd.func35 (by kernel_rfl) rfl rfl rfl (⟨⟨_, rfl, rfl, rfl⟩, ⟨_, rfl, rfl, rfl⟩, trivial⟩) (⟨⟨_, _, rfl, rfl, rfl, rfl, (fun h => by cases h), rfl⟩, ⟨_, _, rfl, rfl, rfl, rfl, (fun h => by cases h), rfl⟩, trivial⟩) (⟨⟨1016, _, rfl, lsC_blk _ _ _ _, rfl, lsC_nmF _ _ _, .inl rfl⟩, trivial⟩) (⟨(fun h => by cases h), (fun h => by cases h), trivial⟩) rfl) trivial rfl ?_
 refine .q (op_assign rfl) trivial rfl ?_
 refine .nil ?_
 show Ev _ _ _ _ _
 refine .ret ?_
 show RetOk _ _ _ _ _ _ _
 exact ret1v rfl (.inl rfl) rfl (by rw [filter_tt]; rfl) ⟨by rw [filter_tt]; rfl, trivial⟩
end Go.Proofs.YticickigndgpcaaDoor
