/-
  Texts of this claim.
-/
import Derived.Test.YtpmambceojbkaaaDoorGX6S
namespace Go.Proofs.YtpmambceojbkaaaDoor
open Go.RowKit
structure SR where
  M : List (Ls × Nat)
  ck : Nat
  L : List Ls
  ep : Int
theorem filter_one {L : List Ls} (h : Asc L) {x : Ls} (hx : x ∈ L) {p : Ls → Bool} (hp : p x = true) (hu : ∀ y ∈ L, p y = true → kEq y x) : L.filter p = [x] := by
  refine (h.filter p).ext (List.pairwise_singleton _ _) fun y => ?_
  rw [List.mem_filter, List.mem_singleton]
  constructor
  · rintro ⟨h1, h2⟩; exact h.same h1 hx (hu y h1 h2)
  · rintro rfl; exact ⟨hx, hp⟩
theorem name_and {o : Int} {t al : List UInt8} {y : Ls} : (y.o == o && y.t == t && y.a == al) = true ↔ y.o = o ∧ y.t = t ∧ y.a = al := by
  simp [and_assoc]
theorem step3_all (a b c ep : Int) {M : List (Ls × Nat)} {ck : Nat} {L : List Ls} (h : MI M ck L) (eo : Nat → Nat × Nat) (hd : ∀ i j, i < 20 → j < 20 → i ≠ j → eo i ≠ eo j) (T A : List UInt8) (hT : T.length ≤ maxLen) (hA : A.length ≤ maxLen) (o n : Int) (hl : ∀ x ∈ L, 0 ≤ x.l ∧ x.l ≤ 1099511627776) (hre : ep ≤ ep ∧ ep ≤ ep + 1) :
    ∃ r : SR, MI r.M r.ck r.L ∧ (∀ x ∈ r.L, 0 ≤ x.l ∧ x.l ≤ 1099511627776) ∧ (ep ≤ r.ep ∧ r.ep ≤ ep + 1) ∧
      Meets Tryd.prog 14 [.ptr 500 0, .agg [.i64 a, .i64 b, .i64 c, .i64 ep, .fsl (lsC L) L.length 5], .agg [.i64 3, .str T, .str A, .i64 o, .i64 n]] [(500, some ⟨.agg [.i64 a, .i64 b, .i64 c, .mp 501, .i64 ep], 68, true⟩), (501, some ⟨mpV (M) (ck), 0, true⟩), (3, some ⟨.agg [.err 155 (1) (offE eo (1))], errT, false⟩), (4, some ⟨.agg [.err 155 (2) (offE eo (2))], errT, false⟩), (5, some ⟨.agg [.err 155 (3) (offE eo (3))], errT, false⟩), (6, some ⟨.agg [.err 155 (4) (offE eo (4))], errT, false⟩), (7, some ⟨.agg [.err 155 (5) (offE eo (5))], errT, false⟩), (8, some ⟨.agg [.err 155 (6) (offE eo (6))], errT, false⟩), (9, some ⟨.agg [.err 155 (7) (offE eo (7))], errT, false⟩), (2, some ⟨.agg [.err 155 (8) (offE eo (8))], errT, false⟩), (1, some ⟨.agg [.err 155 (9) (offE eo (9))], errT, false⟩), (10, some ⟨.agg [.err 155 (10) (offE eo (10))], errT, false⟩), (11, some ⟨.agg [.err 155 (11) (offE eo (11))], errT, false⟩), (12, some ⟨.agg [.err 155 (12) (offE eo (12))], errT, false⟩), (13, some ⟨.agg [.err 155 (13) (offE eo (13))], errT, false⟩), (14, some ⟨.agg [.err 155 (14) (offE eo (14))], errT, false⟩), (15, some ⟨.agg [.err 155 (15) (offE eo (15))], errT, false⟩), (16, some ⟨.agg [.err 155 (16) (offE eo (16))], errT, false⟩), (0, some ⟨.agg [.err 155 (17) (offE eo (17))], errT, false⟩), (17, some ⟨.agg [.err 155 (18) (offE eo (18))], errT, false⟩), (18, some ⟨.agg [.err 155 (19) (offE eo (19))], errT, false⟩), (19, some ⟨.agg [.err 155 (20) (offE eo (20))], errT, false⟩), (401, some ⟨.agg [], errT, false⟩), (402, some ⟨.agg [], errT, false⟩), (403, some ⟨.agg [], errT, false⟩), (404, some ⟨.agg [], errT, false⟩), (405, some ⟨.agg [], errT, false⟩), (406, some ⟨.agg [], errT, false⟩), (407, some ⟨.agg [], errT, false⟩), (408, some ⟨.agg [], errT, false⟩), (409, some ⟨.agg [], errT, false⟩), (410, some ⟨.agg [], errT, false⟩), (411, some ⟨.agg [], errT, false⟩), (412, some ⟨.agg [], errT, false⟩), (413, some ⟨.agg [], errT, false⟩), (414, some ⟨.agg [], errT, false⟩), (415, some ⟨.agg [], errT, false⟩), (416, some ⟨.agg [], errT, false⟩), (417, some ⟨.agg [], errT, false⟩), (418, some ⟨.agg [], errT, false⟩), (419, some ⟨.agg [], errT, false⟩), (420, some ⟨.agg [], errT, false⟩)] (.tup [.agg [.i64 a, .i64 b, .i64 c, .i64 r.ep, .fsl (lsC r.L) r.L.length 5], .bool true]) [(500, some ⟨.agg [.i64 a, .i64 b, .i64 c, .mp 501, .i64 r.ep], 68, true⟩), (501, some ⟨mpV r.M r.ck, 0, true⟩)] := by
  have hm := h.puts (wd := fun x => x.o == o) n (Nat.le_refl _)
  rw [updN_all h.asc n] at hm
  exact ⟨⟨_, _, _, ep⟩, hm, fun x hx => by
    obtain ⟨y, hy, rfl⟩ := List.mem_map.1 hx
    have h1 := hl y hy
    have h2 := tick_in n
    split
    · show 0 ≤ max y.l (tickV n) ∧ max y.l (tickV n) ≤ 1099511627776; omega
    · exact h1, hre, step3_ev a b c ep h eo hd T A hT hA o n⟩
theorem step4_all (a b c ep : Int) {M : List (Ls × Nat)} {ck : Nat} {L : List Ls} (h : MI M ck L) (eo : Nat → Nat × Nat) (hd : ∀ i j, i < 20 → j < 20 → i ≠ j → eo i ≠ eo j) (T A : List UInt8) (hT : T.length ≤ maxLen) (hA : A.length ≤ maxLen) (o n : Int) (hl : ∀ x ∈ L, 0 ≤ x.l ∧ x.l ≤ 1099511627776) (hre : ep ≤ ep ∧ ep ≤ ep + 1) :
    ∃ r : SR, MI r.M r.ck r.L ∧ (∀ x ∈ r.L, 0 ≤ x.l ∧ x.l ≤ 1099511627776) ∧ (ep ≤ r.ep ∧ r.ep ≤ ep + 1) ∧
      Meets Tryd.prog 14 [.ptr 500 0, .agg [.i64 a, .i64 b, .i64 c, .i64 ep, .fsl (lsC L) L.length 5], .agg [.i64 4, .str T, .str A, .i64 o, .i64 n]] [(500, some ⟨.agg [.i64 a, .i64 b, .i64 c, .mp 501, .i64 ep], 68, true⟩), (501, some ⟨mpV (M) (ck), 0, true⟩), (3, some ⟨.agg [.err 155 (1) (offE eo (1))], errT, false⟩), (4, some ⟨.agg [.err 155 (2) (offE eo (2))], errT, false⟩), (5, some ⟨.agg [.err 155 (3) (offE eo (3))], errT, false⟩), (6, some ⟨.agg [.err 155 (4) (offE eo (4))], errT, false⟩), (7, some ⟨.agg [.err 155 (5) (offE eo (5))], errT, false⟩), (8, some ⟨.agg [.err 155 (6) (offE eo (6))], errT, false⟩), (9, some ⟨.agg [.err 155 (7) (offE eo (7))], errT, false⟩), (2, some ⟨.agg [.err 155 (8) (offE eo (8))], errT, false⟩), (1, some ⟨.agg [.err 155 (9) (offE eo (9))], errT, false⟩), (10, some ⟨.agg [.err 155 (10) (offE eo (10))], errT, false⟩), (11, some ⟨.agg [.err 155 (11) (offE eo (11))], errT, false⟩), (12, some ⟨.agg [.err 155 (12) (offE eo (12))], errT, false⟩), (13, some ⟨.agg [.err 155 (13) (offE eo (13))], errT, false⟩), (14, some ⟨.agg [.err 155 (14) (offE eo (14))], errT, false⟩), (15, some ⟨.agg [.err 155 (15) (offE eo (15))], errT, false⟩), (16, some ⟨.agg [.err 155 (16) (offE eo (16))], errT, false⟩), (0, some ⟨.agg [.err 155 (17) (offE eo (17))], errT, false⟩), (17, some ⟨.agg [.err 155 (18) (offE eo (18))], errT, false⟩), (18, some ⟨.agg [.err 155 (19) (offE eo (19))], errT, false⟩), (19, some ⟨.agg [.err 155 (20) (offE eo (20))], errT, false⟩), (401, some ⟨.agg [], errT, false⟩), (402, some ⟨.agg [], errT, false⟩), (403, some ⟨.agg [], errT, false⟩), (404, some ⟨.agg [], errT, false⟩), (405, some ⟨.agg [], errT, false⟩), (406, some ⟨.agg [], errT, false⟩), (407, some ⟨.agg [], errT, false⟩), (408, some ⟨.agg [], errT, false⟩), (409, some ⟨.agg [], errT, false⟩), (410, some ⟨.agg [], errT, false⟩), (411, some ⟨.agg [], errT, false⟩), (412, some ⟨.agg [], errT, false⟩), (413, some ⟨.agg [], errT, false⟩), (414, some ⟨.agg [], errT, false⟩), (415, some ⟨.agg [], errT, false⟩), (416, some ⟨.agg [], errT, false⟩), (417, some ⟨.agg [], errT, false⟩), (418, some ⟨.agg [], errT, false⟩), (419, some ⟨.agg [], errT, false⟩), (420, some ⟨.agg [], errT, false⟩)] (.tup [.agg [.i64 a, .i64 b, .i64 c, .i64 r.ep, .fsl (lsC r.L) r.L.length 5], .bool true]) [(500, some ⟨.agg [.i64 a, .i64 b, .i64 c, .mp 501, .i64 r.ep], 68, true⟩), (501, some ⟨mpV r.M r.ck, 0, true⟩)] := by
  have hm := h.dels (L.filter (fun x => x.o == o)) (L.filter (fun x => x.o == o)).length
  rw [remN_all h.asc] at hm
  exact ⟨⟨_, _, _, ep⟩, hm, fun x hx => hl x (List.mem_filter.1 hx).1, hre, step4_ev a b c ep h eo hd T A hT hA o n⟩
theorem step5_all (a b c ep : Int) {M : List (Ls × Nat)} {ck : Nat} {L : List Ls} (h : MI M ck L) (eo : Nat → Nat × Nat) (hd : ∀ i j, i < 20 → j < 20 → i ≠ j → eo i ≠ eo j) (T A : List UInt8) (hT : T.length ≤ maxLen) (hA : A.length ≤ maxLen) (o n : Int) (hl : ∀ x ∈ L, 0 ≤ x.l ∧ x.l ≤ 1099511627776) (hre : ep ≤ ep ∧ ep ≤ ep + 1) :
    ∃ r : SR, MI r.M r.ck r.L ∧ (∀ x ∈ r.L, 0 ≤ x.l ∧ x.l ≤ 1099511627776) ∧ (ep ≤ r.ep ∧ r.ep ≤ ep + 1) ∧
      Meets Tryd.prog 14 [.ptr 500 0, .agg [.i64 a, .i64 b, .i64 c, .i64 ep, .fsl (lsC L) L.length 5], .agg [.i64 5, .str T, .str A, .i64 o, .i64 n]] [(500, some ⟨.agg [.i64 a, .i64 b, .i64 c, .mp 501, .i64 ep], 68, true⟩), (501, some ⟨mpV (M) (ck), 0, true⟩), (3, some ⟨.agg [.err 155 (1) (offE eo (1))], errT, false⟩), (4, some ⟨.agg [.err 155 (2) (offE eo (2))], errT, false⟩), (5, some ⟨.agg [.err 155 (3) (offE eo (3))], errT, false⟩), (6, some ⟨.agg [.err 155 (4) (offE eo (4))], errT, false⟩), (7, some ⟨.agg [.err 155 (5) (offE eo (5))], errT, false⟩), (8, some ⟨.agg [.err 155 (6) (offE eo (6))], errT, false⟩), (9, some ⟨.agg [.err 155 (7) (offE eo (7))], errT, false⟩), (2, some ⟨.agg [.err 155 (8) (offE eo (8))], errT, false⟩), (1, some ⟨.agg [.err 155 (9) (offE eo (9))], errT, false⟩), (10, some ⟨.agg [.err 155 (10) (offE eo (10))], errT, false⟩), (11, some ⟨.agg [.err 155 (11) (offE eo (11))], errT, false⟩), (12, some ⟨.agg [.err 155 (12) (offE eo (12))], errT, false⟩), (13, some ⟨.agg [.err 155 (13) (offE eo (13))], errT, false⟩), (14, some ⟨.agg [.err 155 (14) (offE eo (14))], errT, false⟩), (15, some ⟨.agg [.err 155 (15) (offE eo (15))], errT, false⟩), (16, some ⟨.agg [.err 155 (16) (offE eo (16))], errT, false⟩), (0, some ⟨.agg [.err 155 (17) (offE eo (17))], errT, false⟩), (17, some ⟨.agg [.err 155 (18) (offE eo (18))], errT, false⟩), (18, some ⟨.agg [.err 155 (19) (offE eo (19))], errT, false⟩), (19, some ⟨.agg [.err 155 (20) (offE eo (20))], errT, false⟩), (401, some ⟨.agg [], errT, false⟩), (402, some ⟨.agg [], errT, false⟩), (403, some ⟨.agg [], errT, false⟩), (404, some ⟨.agg [], errT, false⟩), (405, some ⟨.agg [], errT, false⟩), (406, some ⟨.agg [], errT, false⟩), (407, some ⟨.agg [], errT, false⟩), (408, some ⟨.agg [], errT, false⟩), (409, some ⟨.agg [], errT, false⟩), (410, some ⟨.agg [], errT, false⟩), (411, some ⟨.agg [], errT, false⟩), (412, some ⟨.agg [], errT, false⟩), (413, some ⟨.agg [], errT, false⟩), (414, some ⟨.agg [], errT, false⟩), (415, some ⟨.agg [], errT, false⟩), (416, some ⟨.agg [], errT, false⟩), (417, some ⟨.agg [], errT, false⟩), (418, some ⟨.agg [], errT, false⟩), (419, some ⟨.agg [], errT, false⟩), (420, some ⟨.agg [], errT, false⟩)] (.tup [.agg [.i64 a, .i64 b, .i64 c, .i64 r.ep, .fsl (lsC r.L) r.L.length 5], .bool true]) [(500, some ⟨.agg [.i64 a, .i64 b, .i64 c, .mp 501, .i64 r.ep], 68, true⟩), (501, some ⟨mpV r.M r.ck, 0, true⟩)] := by
  have hm := h.dels (L.filter (fun x => decide (c ≤ tickV n - x.l))) (L.filter (fun x => decide (c ≤ tickV n - x.l))).length
  rw [remN_all h.asc] at hm
  exact ⟨⟨_, _, _, ep⟩, hm, fun x hx => hl x (List.mem_filter.1 hx).1, hre, step5_ev a b c ep h eo hd T A hT hA o n hl⟩
theorem step_all (a b c ep : Int) {M : List (Ls × Nat)} {ck : Nat} {L : List Ls} (h : MI M ck L) (eo : Nat → Nat × Nat) (hd : ∀ i j, i < 20 → j < 20 → i ≠ j → eo i ≠ eo j) (T A : List UInt8) (hT : T.length ≤ maxLen) (hA : A.length ≤ maxLen) (o n k : Int) (hb : b ≤ 4096) (hl : ∀ x ∈ L, 0 ≤ x.l ∧ x.l ≤ 1099511627776) (hep : 0 ≤ ep ∧ ep ≤ 1000000000) :
    ∃ r : SR, MI r.M r.ck r.L ∧ (∀ x ∈ r.L, 0 ≤ x.l ∧ x.l ≤ 1099511627776) ∧ (ep ≤ r.ep ∧ r.ep ≤ ep + 1) ∧
      Meets Tryd.prog 14 [.ptr 500 0, .agg [.i64 a, .i64 b, .i64 c, .i64 ep, .fsl (lsC L) L.length 5], .agg [.i64 k, .str T, .str A, .i64 o, .i64 n]] [(500, some ⟨.agg [.i64 a, .i64 b, .i64 c, .mp 501, .i64 ep], 68, true⟩), (501, some ⟨mpV (M) (ck), 0, true⟩), (3, some ⟨.agg [.err 155 (1) (offE eo (1))], errT, false⟩), (4, some ⟨.agg [.err 155 (2) (offE eo (2))], errT, false⟩), (5, some ⟨.agg [.err 155 (3) (offE eo (3))], errT, false⟩), (6, some ⟨.agg [.err 155 (4) (offE eo (4))], errT, false⟩), (7, some ⟨.agg [.err 155 (5) (offE eo (5))], errT, false⟩), (8, some ⟨.agg [.err 155 (6) (offE eo (6))], errT, false⟩), (9, some ⟨.agg [.err 155 (7) (offE eo (7))], errT, false⟩), (2, some ⟨.agg [.err 155 (8) (offE eo (8))], errT, false⟩), (1, some ⟨.agg [.err 155 (9) (offE eo (9))], errT, false⟩), (10, some ⟨.agg [.err 155 (10) (offE eo (10))], errT, false⟩), (11, some ⟨.agg [.err 155 (11) (offE eo (11))], errT, false⟩), (12, some ⟨.agg [.err 155 (12) (offE eo (12))], errT, false⟩), (13, some ⟨.agg [.err 155 (13) (offE eo (13))], errT, false⟩), (14, some ⟨.agg [.err 155 (14) (offE eo (14))], errT, false⟩), (15, some ⟨.agg [.err 155 (15) (offE eo (15))], errT, false⟩), (16, some ⟨.agg [.err 155 (16) (offE eo (16))], errT, false⟩), (0, some ⟨.agg [.err 155 (17) (offE eo (17))], errT, false⟩), (17, some ⟨.agg [.err 155 (18) (offE eo (18))], errT, false⟩), (18, some ⟨.agg [.err 155 (19) (offE eo (19))], errT, false⟩), (19, some ⟨.agg [.err 155 (20) (offE eo (20))], errT, false⟩), (401, some ⟨.agg [], errT, false⟩), (402, some ⟨.agg [], errT, false⟩), (403, some ⟨.agg [], errT, false⟩), (404, some ⟨.agg [], errT, false⟩), (405, some ⟨.agg [], errT, false⟩), (406, some ⟨.agg [], errT, false⟩), (407, some ⟨.agg [], errT, false⟩), (408, some ⟨.agg [], errT, false⟩), (409, some ⟨.agg [], errT, false⟩), (410, some ⟨.agg [], errT, false⟩), (411, some ⟨.agg [], errT, false⟩), (412, some ⟨.agg [], errT, false⟩), (413, some ⟨.agg [], errT, false⟩), (414, some ⟨.agg [], errT, false⟩), (415, some ⟨.agg [], errT, false⟩), (416, some ⟨.agg [], errT, false⟩), (417, some ⟨.agg [], errT, false⟩), (418, some ⟨.agg [], errT, false⟩), (419, some ⟨.agg [], errT, false⟩), (420, some ⟨.agg [], errT, false⟩)] (.tup [.agg [.i64 a, .i64 b, .i64 c, .i64 r.ep, .fsl (lsC r.L) r.L.length 5], .bool true]) [(500, some ⟨.agg [.i64 a, .i64 b, .i64 c, .mp 501, .i64 r.ep], 68, true⟩), (501, some ⟨mpV r.M r.ck, 0, true⟩)] := by
  have ht70 : ∀ s : List UInt8, s.length ≤ maxLen → (s.take 70).length ≤ maxLen := fun s hs => by rw [List.length_take]; omega
  have hre : ep ≤ ep ∧ ep ≤ ep + 1 := by omega
  have hre1 : ep ≤ ep + 1 ∧ ep + 1 ≤ ep + 1 := by omega
  have hnew : ∀ x ∈ insL ⟨T.take 70, A.take 70, o, ep + 1, tickV n⟩ false L, 0 ≤ x.l ∧ x.l ≤ 1099511627776 := fun x hx => by
    rcases List.mem_cons.1 ((insL_perm _ L).mem_iff.1 hx) with rfl | hx
    · exact tick_in n
    · exact hl x (remL_mem hx).1
  by_cases hx : ∃ x ∈ L, x.t = T.take 70 ∧ x.a = A.take 70
  · obtain ⟨x, hx, h1, h2⟩ := hx
    obtain ⟨i, hi, hk, hkx⟩ := atI_yes h.asc hx 0
    rw [h1, h2, Nat.zero_add] at hk
    by_cases k1 : k = 1
    · subst k1
      exact ⟨⟨M, ck, L, ep⟩, h, hl, hre, step1Y_ev a b c ep h eo hd T A hT hA o n hx h1 h2 i hk hi hkx⟩
    by_cases k2 : k = 2
    · subst k2
      by_cases hw : x.o = o
      · have hg : L.filter (fun x : Ls => x.o == o && x.t == T.take 70 && x.a == A.take 70) = [x] := filter_one h.asc hx (name_and.2 ⟨hw, h1, h2⟩) fun y _ hp => by
          have := name_and.1 hp
          exact ⟨this.2.1.trans h1.symm, this.2.2.trans h2.symm⟩
        have hr : remL L x = L.filter (fun x : Ls => !(x.o == o && x.t == T.take 70 && x.a == A.take 70)) := List.filter_congr fun y hy => by
          congr 1
          rw [Bool.eq_iff_iff, decide_eq_true_iff, name_and]
          constructor
          · intro e
            have := h.asc.same hy hx e
            subst this
            exact ⟨hw, h1, h2⟩
          · rintro ⟨_, e1, e2⟩
            exact ⟨e1.trans h1.symm, e2.trans h2.symm⟩
        exact ⟨⟨delM M x, ck, _, ep⟩, by have := h.del x; rw [hr] at this; exact this, fun y hy => hl y (List.mem_filter.1 hy).1, hre, step2Y_ev a b c ep h eo hd T A hT hA o n hx h1 h2 i hk hi hkx hw hg⟩
      · have hg : L.filter (fun x : Ls => x.o == o && x.t == T.take 70 && x.a == A.take 70) = [] := List.filter_eq_nil_iff.2 fun y hy hp => by
          have e := name_and.1 hp
          have := h.asc.same hy hx ⟨e.2.1.trans h1.symm, e.2.2.trans h2.symm⟩
          subst this
          exact hw e.1
        exact ⟨⟨M, ck, L, ep⟩, h, hl, hre, step2O_ev a b c ep h eo hd T A hT hA o n hx h1 h2 i hk hi hkx hw hg⟩
    by_cases k3 : k = 3
    · subst k3
      exact step3_all a b c ep h eo hd T A hT hA o n hl hre
    by_cases k4 : k = 4
    · subst k4
      exact step4_all a b c ep h eo hd T A hT hA o n hl hre
    by_cases k5 : k = 5
    · subst k5
      exact step5_all a b c ep h eo hd T A hT hA o n hl hre
    cases hvt : nameN (T.take 70) with
    | false => exact ⟨⟨M, ck, L, ep⟩, h, hl, hre, step0V1_ev a b c ep h eo hd T A hT hA o n k k1 k2 k3 k4 k5 hvt⟩
    | true =>
      cases hva : nameN (A.take 70) with
      | false => exact ⟨⟨M, ck, L, ep⟩, h, hl, hre, step0V2_ev a b c ep h eo hd T A hT hA o n k k1 k2 k3 k4 k5 hvt hva⟩
      | true =>
        by_cases hw : x.o = o
        · exact ⟨⟨M, ck, L, ep⟩, h, hl, hre, step0H_ev a b c ep h eo hd T A hT hA o n k k1 k2 k3 k4 k5 hx h1 h2 i hk hi hkx hvt hva hw⟩
        · exact ⟨⟨_, _, _, ep + 1⟩, h.ins (x := ⟨T.take 70, A.take 70, o, ep + 1, tickV n⟩) ⟨nameN_len hvt, nameN_len hva⟩ (.inl ⟨x, hx, h1, h2⟩), hnew, hre1, step0O_ev a b c ep h eo hd T A hT hA o n k k1 k2 k3 k4 k5 hx h1 h2 i hk hi hkx hvt hva hw hep⟩
  · have hn : ∀ x ∈ L, ¬ (x.t = T.take 70 ∧ x.a = A.take 70) := fun x hx' e => hx ⟨x, hx', e⟩
    have hk := atI_no hn 0
    by_cases k1 : k = 1
    · subst k1
      exact ⟨⟨M, ck, L, ep⟩, h, hl, hre, step1N_ev a b c ep h eo hd T A hT hA o n hn hk⟩
    by_cases k2 : k = 2
    · subst k2
      have hg : L.filter (fun x : Ls => x.o == o && x.t == T.take 70 && x.a == A.take 70) = [] := List.filter_eq_nil_iff.2 fun y hy hp => by
        have e := name_and.1 hp
        exact hn y hy e.2
      exact ⟨⟨M, ck, L, ep⟩, h, hl, hre, step2N_ev a b c ep h eo hd T A hT hA o n hn hk hg⟩
    by_cases k3 : k = 3
    · subst k3
      exact step3_all a b c ep h eo hd T A hT hA o n hl hre
    by_cases k4 : k = 4
    · subst k4
      exact step4_all a b c ep h eo hd T A hT hA o n hl hre
    by_cases k5 : k = 5
    · subst k5
      exact step5_all a b c ep h eo hd T A hT hA o n hl hre
    cases hvt : nameN (T.take 70) with
    | false => exact ⟨⟨M, ck, L, ep⟩, h, hl, hre, step0V1_ev a b c ep h eo hd T A hT hA o n k k1 k2 k3 k4 k5 hvt⟩
    | true =>
      cases hva : nameN (A.take 70) with
      | false => exact ⟨⟨M, ck, L, ep⟩, h, hl, hre, step0V2_ev a b c ep h eo hd T A hT hA o n k k1 k2 k3 k4 k5 hvt hva⟩
      | true =>
        by_cases hq : a ≤ ((L.filter (fun x => x.t == T.take 70)).length : Nat)
        · exact ⟨⟨M, ck, L, ep⟩, h, hl, hre, step0Q_ev a b c ep h eo hd T A hT hA o n k k1 k2 k3 k4 k5 hn hk hvt hva hq⟩
        · by_cases hf : b ≤ (L.length : Nat)
          · exact ⟨⟨M, ck, L, ep⟩, h, hl, hre, step0F_ev a b c ep h eo hd T A hT hA o n k k1 k2 k3 k4 k5 hn hk hvt hva hq hf⟩
          · exact ⟨⟨_, _, _, ep + 1⟩, h.ins (x := ⟨T.take 70, A.take 70, o, ep + 1, tickV n⟩) ⟨nameN_len hvt, nameN_len hva⟩ (.inr (by omega)), hnew, hre1, step0I_ev a b c ep h eo hd T A hT hA o n k k1 k2 k3 k4 k5 hn hk hvt hva hq hf hep⟩
end Go.Proofs.YtpmambceojbkaaaDoor
