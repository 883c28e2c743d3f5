/-
  Texts of this claim.
-/
import Derived.Test.YteefpaiefphdpaaDoorGJ1
import Derived.Test.YteefpaiefphdpaaDoorGK
namespace Go.Proofs.YteefpaiefphdpaaDoor
open Go.RowKit
theorem goes_s {h : HD} {s : List UInt8} (hs : s = []) : goesD h s = false := by subst hs; rfl
theorem goes_e {h : HD} {s : List UInt8} (he : ¬ h.e = 0) : goesD h s = false := by unfold goesD; rw [decide_eq_false he]; simp
theorem goes_v {h : HD} {s : List UInt8} (hv : ¬ h.v = []) : goesD h s = false := by unfold goesD; rw [show (h.v == []) = false from beq_eq_false_iff_ne.2 hv]; simp
theorem goes_y {h : HD} {s : List UInt8} (hs : ¬ s = []) (he : h.e = 0) (hv : h.v = []) : goesD h s = true := by unfold goesD; rw [show (s == []) = false from beq_eq_false_iff_ne.2 hs, he, hv]; rfl
theorem nv_t {v : List UInt8} (h : (!(v != [])) = true) : v = [] := by simpa using h
theorem nv_f {v : List UInt8} (h : (!(v != [])) = false) : ¬ v = [] := by simpa using h
/-- What Feed gives back. -/
def feedR (h : HD) (s : List UInt8) : List UInt8 := if (feedD h s).1.e = 0 then (feedD h s).2 else []
structure NI (h : HD) (s : List UInt8) where
  k : HD
  q : List UInt8
  f : feedD h s = feedD k q
  fine : k.fine
  p : k.p = []
  le : q.length ≤ s.length
structure SI (h : HD) (s : List UInt8) where
  k : HD
  q : List UInt8
  f : feedD h s = feedD k q
  fine : k.fine
  p : k.p ≠ []
  z : q = []
theorem read_keeps {h : HD} {s : List UInt8} (hk : keepsD h s = true) : (readD h s).1 = { h with p := h.p ++ pieceD h s } ∧ (readD h s).2 = [] := by
  obtain ⟨hc, hf⟩ := keeps_y hk
  rw [readD_k hc hf]; exact ⟨rfl, rfl⟩
theorem read_not {h : HD} {s : List UInt8} (hk : keepsD h s = false) : (readD h s).1.p = [] := by
  cases hc : (pieceD h s).contains 10 with
  | true => rw [readD_y hc]; exact procH_p _ _
  | false => rw [readD_f hc (keeps_n hk hc)]
theorem read_le {h : HD} {s : List UInt8} (hs : s ≠ []) : (readD h s).2.length ≤ s.length := Nat.le_of_lt (readD_lt hs)
theorem open_of {k : HD} (hf : k.fine) (he : k.e = 0) (hv : k.v = []) : k.open := ⟨he, hv, hf.p, hf.g⟩
def NI.nn {h : HD} {s : List UInt8} (i : NI h s) (hs : ¬ i.q = []) (he : i.k.e = 0) (hv : i.k.v = []) (hk : keepsD i.k i.q = false) : NI h s :=
  ⟨(readD i.k i.q).1, (readD i.k i.q).2, i.f.trans (feedD_go (goes_y hs he hv)), read_fine i.fine (open_of i.fine he hv), read_not hk, Nat.le_trans (read_le hs) i.le⟩
def NI.ns {h : HD} {s : List UInt8} (i : NI h s) (hs : ¬ i.q = []) (he : i.k.e = 0) (hv : i.k.v = []) (hk : keepsD i.k i.q = true) : SI h s :=
  ⟨(readD i.k i.q).1, (readD i.k i.q).2, i.f.trans (feedD_go (goes_y hs he hv)), read_fine i.fine (open_of i.fine he hv), by
    rw [(read_keeps hk).1]
    intro e
    have h1 := congrArg List.length e
    have h2 := piece_len i.k i.q
    have h3 : 0 < i.q.length := List.length_pos_iff.2 hs
    have h4 := i.fine.p
    simp only [List.length_append, List.length_nil] at h1
    omega, (read_keeps hk).2⟩
def in_n {h : HD} {s : List UInt8} (hf : h.fine) (hs : ¬ s = []) (he : h.e = 0) (hv : h.v = []) (hk : keepsD h s = false) : NI h s :=
  ⟨(readD h s).1, (readD h s).2, feedD_go (goes_y hs he hv), read_fine hf (open_of hf he hv), read_not hk, read_le hs⟩
def in_s {h : HD} {s : List UInt8} (hf : h.fine) (hp : h.p ≠ []) (hs : ¬ s = []) (he : h.e = 0) (hv : h.v = []) (hk : keepsD h s = true) : SI h s :=
  ⟨(readD h s).1, (readD h s).2, feedD_go (goes_y hs he hv), read_fine hf (open_of hf he hv), by
    rw [(read_keeps hk).1]
    intro e
    exact hp (List.append_eq_nil_iff.1 e).1, (read_keeps hk).2⟩
set_option maxRecDepth 100000 in
theorem feed_nn (h : HD) (s : List UInt8) (hf : h.fine) (hp : h.p = []) (hs : s.length ≤ 9000000) (hfin : (feedD h s).1.p = []) (eo : Nat → Nat × Nat) : Meets Tryd.prog 31 [.ptr 500 0, .str s] [(500, some ⟨.agg [.bool (h).c, .nilsl, .i64 (((h).g : Nat) : Int), .str (h).v, .err 225 ((h).e) (offE eo ((h).e))], 115, true⟩), (0, some ⟨.agg [.err 225 (3) (offE eo (3))], errT, false⟩), (4, some ⟨.agg [.err 225 (4) (offE eo (4))], errT, false⟩), (11, some ⟨.agg [.err 225 (12) (offE eo (12))], errT, false⟩)] (.tup [.str (feedR h s), .err 225 ((feedD h s).1.e) (offE eo ((feedD h s).1.e))]) [(500, some ⟨.agg [.bool ((feedD h s).1).c, .nilsl, .i64 ((((feedD h s).1).g : Nat) : Int), .str ((feedD h s).1).v, .err 225 (((feedD h s).1).e) (offE eo (((feedD h s).1).e))], 115, true⟩)] := by
 refine meets_of_ev (nt := 33) Tryd.func31 rfl rfl (Nat.le_of_ble_eq_true rfl) ?_
 refine .seq ?_
 refine .region ?_
 refine .q (op_assign rfl) trivial rfl ?_
 refine .q (op_assign rfl) trivial rfl ?_
 refine .asR (.err 225 (0) (offE eo (0))) (nil_err _ _) ?_
 refine .nil ?_
 show Ev _ _ _ _ _
 refine .seq ?_
 refine .block ?_
 refine Ev.loop (ι := NI h s ⊕ SI h s) (fun q => match q with | .inl i => ⟨[(0, .ptr 500 0), (1, .str i.q), (4, .str []), (5, .err 225 (0) (offE eo (0)))], [(500, some ⟨.agg [.bool (i.k).c, .nilsl, .i64 (((i.k).g : Nat) : Int), .str (i.k).v, .err 225 ((i.k).e) (offE eo ((i.k).e))], 115, true⟩), (0, some ⟨.agg [.err 225 (3) (offE eo (3))], errT, false⟩), (4, some ⟨.agg [.err 225 (4) (offE eo (4))], errT, false⟩), (11, some ⟨.agg [.err 225 (12) (offE eo (12))], errT, false⟩)], 1008⟩ | .inr i => ⟨[(0, .ptr 500 0), (1, .str i.q), (4, .str []), (5, .err 225 (0) (offE eo (0)))], [(500, some ⟨.agg [.bool (i.k).c, .sl 1000 0 i.k.p.length 1, .i64 (((i.k).g : Nat) : Int), .str (i.k).v, .err 225 ((i.k).e) (offE eo ((i.k).e))], 115, true⟩), (1000, some ⟨.aggB (i.k.p), 5, true⟩), (0, some ⟨.agg [.err 225 (3) (offE eo (3))], errT, false⟩), (4, some ⟨.agg [.err 225 (4) (offE eo (4))], errT, false⟩), (11, some ⟨.agg [.err 225 (12) (offE eo (12))], errT, false⟩)], 1008⟩) (fun q => match q with | .inl i => i.q.length | .inr i => 0) (.inl ⟨h, s, rfl, hf, hp, Nat.le_refl _⟩) (StLe.mk [] rfl rfl ⟨⟨_, rfl, by first | rfl | (simp only [AV.ren]; congr 1; omega), rfl⟩, ⟨_, rfl, by first | rfl | (simp only [AV.ren]; congr 1; omega), rfl⟩, ⟨_, rfl, by first | rfl | (simp only [AV.ren]; congr 1; omega), rfl⟩, ⟨_, rfl, by first | rfl | (simp only [AV.ren]; congr 1; omega), rfl⟩, trivial⟩ ⟨⟨_, _, rfl, rfl, rfl, rfl, id, rfl⟩, ⟨_, _, rfl, rfl, rfl, rfl, id, rfl⟩, ⟨_, _, rfl, rfl, rfl, rfl, id, rfl⟩, ⟨_, _, rfl, rfl, rfl, rfl, id, rfl⟩, trivial⟩) ?_
 rintro (i | i)
 ·dsimp only
  refine .seq ?_
  refine .seq ?_
  refine .region ?_
  refine .q (op_move rfl) trivial rfl ?_
  refine .q (op_eqS rfl rfl rfl) trivial rfl ?_
  refine .q (op_move rfl) trivial rfl ?_
  refine .split (fun hg8 => ?_) (fun hg8 => ?_)
  ·first | replace hg8 := of_decide_eq_true hg8 | replace hg8 := of_decide_eq_false hg8 | replace hg8 := eq_of_beq hg8 | replace hg8 := ne_of_beq_false hg8 | simp only [bne_iff_ne, ne_eq] at hg8 | simp only [bne_eq_false_iff_eq] at hg8
   refine .q (op_move rfl) ⟨_, rfl, rfl⟩ rfl ?_
   refine .q (op_nilCheck rfl) ⟨_, rfl, rfl⟩ rfl ?_
   refine .q (op_fieldAddr (m := 0) Tryd.underlying115 rfl (by kernel_rfl) rfl) ⟨_, rfl, rfl⟩ rfl ?_
   refine .as (.ptr 500 4) rfl ?_
   refine .q (op_load Tryd.underlying26 rfl rfl rfl rfl (by show 4 < 5; decide)) ⟨_, rfl, rfl⟩ rfl ?_
   refine .q (op_eqErrNil (e := i.k.e) Tryd.underlying26 rfl rfl) ⟨_, rfl, rfl⟩ rfl ?_
   refine .q (op_pick_true rfl rfl rfl) trivial rfl ?_
   refine .q (op_move rfl) trivial rfl ?_
   refine .split (fun hg15 => ?_) (fun hg15 => ?_)
   ·first | replace hg15 := of_decide_eq_true hg15 | replace hg15 := of_decide_eq_false hg15 | replace hg15 := eq_of_beq hg15 | replace hg15 := ne_of_beq_false hg15 | simp only [bne_iff_ne, ne_eq] at hg15 | simp only [bne_eq_false_iff_eq] at hg15
    refine .q (op_move rfl) ⟨_, rfl, rfl⟩ rfl ?_
    refine .q (op_call (U := []) [(500, 500)] [] (done_n i.k eo) Tryd.func30 (by kernel_rfl) rfl rfl rfl (⟨⟨_, rfl, rfl, rfl⟩, trivial⟩) (⟨⟨_, _, rfl, rfl, rfl, rfl, (fun h => by cases h), rfl⟩, trivial⟩) (trivial) (⟨(fun h => by cases h), trivial⟩) rfl) ⟨_, rfl, rfl⟩ rfl ?_
    refine .q (op_notB rfl) ⟨_, rfl, rfl⟩ rfl ?_
    refine .q (op_pick_true rfl rfl rfl) trivial rfl ?_
    refine .nil ?_
    show Ev _ _ _ _ _
    refine .cond rfl (fun hc19 => ?_) (fun hc19 => ?_)
    ·skip
     refine .skip ?_
     show Ev _ _ _ _ _
     refine .block ?_
     refine .region ?_
     refine .q (op_move rfl) trivial rfl ?_
     refine .q (op_move rfl) trivial rfl ?_
     refine dite (keepsD i.k i.q = true) (fun hk => ?_) (fun hk => ?_)
     ·refine .a (op_call (U := [(500, some ⟨.agg [.bool ((readD i.k i.q).1).c, .sl 1008 0 (readD i.k i.q).1.p.length 1, .i64 ((((readD i.k i.q).1).g : Nat) : Int), .str ((readD i.k i.q).1).v, .err 225 (((readD i.k i.q).1).e) (offE eo (((readD i.k i.q).1).e))], 115, true⟩), (1008, some ⟨.aggB (readD i.k i.q).1.p, 5, true⟩)]) [(500, 500)] [(1008, 1000)] (read_ns i.k i.q (Nat.le_trans i.le hs) (i.fine.g) (i.fine.p) (List.length_pos_iff.2 hg8) (i.p) hk eo) Tryd.func71 (by kernel_rfl) rfl rfl rfl (⟨⟨_, rfl, rfl, rfl⟩, ⟨_, rfl, rfl, rfl⟩, trivial⟩) (⟨⟨_, _, rfl, rfl, rfl, rfl, id, rfl⟩, ⟨_, _, rfl, rfl, rfl, rfl, (fun h => by cases h), rfl⟩, ⟨_, _, rfl, rfl, rfl, rfl, (fun h => by cases h), rfl⟩, ⟨_, _, rfl, rfl, rfl, rfl, (fun h => by cases h), rfl⟩, trivial⟩) (⟨⟨500, _, rfl, rfl, rfl, rfl, .inr ⟨rfl, _, rfl, rfl⟩⟩, ⟨1000, _, rfl, rfl, rfl, rfl, .inl rfl⟩, trivial⟩) (⟨(fun _ => ⟨500, _, rfl, rfl⟩), (fun h => by cases h), (fun h => by cases h), (fun h => by cases h), trivial⟩) rfl) trivial rfl ?_
      refine .q (op_assign rfl) trivial rfl ?_
      refine .nil ?_
      exact ⟨.inr (i.ns hg8 hg15 (nv_t hc19) hk), List.length_pos_iff.2 hg8, StLe.mk [(1000, 1008)] rfl rfl ⟨⟨_, rfl, by first | rfl | (simp only [AV.ren]; congr 1; omega), rfl⟩, ⟨_, rfl, by first | rfl | (simp only [AV.ren]; congr 1; omega), rfl⟩, ⟨_, rfl, by first | rfl | (simp only [AV.ren]; congr 1; omega), rfl⟩, ⟨_, rfl, by first | rfl | (simp only [AV.ren]; congr 1; omega), rfl⟩, trivial⟩ ⟨⟨_, _, rfl, rfl, rfl, rfl, id, rfl⟩, ⟨_, _, rfl, rfl, rfl, rfl, id, rfl⟩, ⟨_, _, rfl, rfl, rfl, rfl, id, rfl⟩, ⟨_, _, rfl, rfl, rfl, rfl, id, rfl⟩, ⟨_, _, rfl, rfl, rfl, rfl, id, rfl⟩, trivial⟩⟩
     ·refine .a (op_call (U := [(500, some ⟨.agg [.bool ((readD i.k i.q).1).c, .nilsl, .i64 ((((readD i.k i.q).1).g : Nat) : Int), .str ((readD i.k i.q).1).v, .err 225 (((readD i.k i.q).1).e) (offE eo (((readD i.k i.q).1).e))], 115, true⟩)]) [(500, 500)] [] (read_nn i.k i.q (Nat.le_trans i.le hs) (i.fine.g) (i.fine.p) (List.length_pos_iff.2 hg8) (i.p) (Bool.eq_false_iff.2 hk) eo) Tryd.func71 (by kernel_rfl) rfl rfl rfl (⟨⟨_, rfl, rfl, rfl⟩, ⟨_, rfl, rfl, rfl⟩, trivial⟩) (⟨⟨_, _, rfl, rfl, rfl, rfl, id, rfl⟩, ⟨_, _, rfl, rfl, rfl, rfl, (fun h => by cases h), rfl⟩, ⟨_, _, rfl, rfl, rfl, rfl, (fun h => by cases h), rfl⟩, ⟨_, _, rfl, rfl, rfl, rfl, (fun h => by cases h), rfl⟩, trivial⟩) (⟨⟨500, _, rfl, rfl, rfl, rfl, .inr ⟨rfl, _, rfl, rfl⟩⟩, trivial⟩) (⟨(fun _ => ⟨500, _, rfl, rfl⟩), (fun h => by cases h), (fun h => by cases h), (fun h => by cases h), trivial⟩) rfl) trivial rfl ?_
      refine .q (op_assign rfl) trivial rfl ?_
      refine .nil ?_
      exact ⟨.inl (i.nn hg8 hg15 (nv_t hc19) (Bool.eq_false_iff.2 hk)), readD_lt hg8, StLe.mk [] rfl rfl ⟨⟨_, rfl, by first | rfl | (simp only [AV.ren]; congr 1; omega), rfl⟩, ⟨_, rfl, by first | rfl | (simp only [AV.ren]; congr 1; omega), rfl⟩, ⟨_, rfl, by first | rfl | (simp only [AV.ren]; congr 1; omega), rfl⟩, ⟨_, rfl, by first | rfl | (simp only [AV.ren]; congr 1; omega), rfl⟩, trivial⟩ ⟨⟨_, _, rfl, rfl, rfl, rfl, id, rfl⟩, ⟨_, _, rfl, rfl, rfl, rfl, id, rfl⟩, ⟨_, _, rfl, rfl, rfl, rfl, id, rfl⟩, ⟨_, _, rfl, rfl, rfl, rfl, id, rfl⟩, trivial⟩⟩
    ·skip
     refine .exit ?_
     show Ev _ _ _ _ _
     have hng : goesD i.k i.q = false := by first | exact goes_s (bne_eq_false_iff_eq.1 hg8) | exact goes_s hg8 | exact goes_e hg15 | exact goes_v (nv_f hc19)
     have hF := i.f.trans (feedD_end hng)
     refine .seq ?_
     refine .seq ?_
     refine .region ?_
     refine .q (op_move rfl) trivial rfl ?_
     refine .q (op_nilCheck rfl) trivial rfl ?_
     refine .q (op_fieldAddr (m := 0) Tryd.underlying115 rfl (by kernel_rfl) rfl) trivial rfl ?_
     refine .as (.ptr 500 4) rfl ?_
     refine .q (op_load Tryd.underlying26 rfl rfl rfl rfl (by show 4 < 5; decide)) trivial rfl ?_
     refine .q (op_eqErrNil (e := i.k.e) Tryd.underlying26 rfl rfl) trivial rfl ?_
     refine .nil ?_
     show Ev _ _ _ _ _
     refine .cond rfl (fun hc27 => ?_) (fun hc27 => ?_)
     ·first | replace hc27 := of_decide_eq_true hc27 | replace hc27 := of_decide_eq_false hc27 | replace hc27 := eq_of_beq hc27 | replace hc27 := ne_of_beq_false hc27 | simp only [bne_iff_ne, ne_eq] at hc27 | simp only [bne_eq_false_iff_eq] at hc27
      refine .seq ?_
      refine .drawn [[], [0], [0, 1], [0, 1, 2], [], [0, 1, 2, 3, 4]] [3] [] (by kernel_rfl) (by kernel_rfl) rfl ?_
      show DK _ [0, 1, 2, 3, 4, 5] _ _ _
      refine .q rfl (op_move rfl) trivial ?_
      refine .q rfl (op_nilCheck rfl) trivial ?_
      refine .q rfl (op_fieldAddr (m := 0) Tryd.underlying115 rfl (by kernel_rfl) rfl) trivial ?_
      refine .as (.ptr 500 4) rfl ?_
      refine .q rfl (op_load Tryd.underlying26 rfl rfl rfl rfl (by show 4 < 5; decide)) trivial ?_
      refine .q rfl (op_assign rfl) trivial ?_
      refine .q rfl (op_assign rfl) trivial ?_
      refine .nil ?_
      show Ev _ _ _ _ _
      refine .ret ?_
      show RetOk _ _ _ _ _ _ _
      first
       | exact ret2v rfl (.inl rfl) rfl rfl (congrArg AV.str (by unfold feedR; rw [hF]; first | (exact (if_pos hc27).symm) | (exact (if_neg hc27).symm))) (congrArg (fun z : HD => AV.err 225 (z.e) (offE eo (z.e))) (congrArg Prod.fst hF).symm) ⟨congrArg (fun z : HD => some (ABlk.mk (.agg [.bool (z).c, .nilsl, .i64 (((z).g : Nat) : Int), .str (z).v, .err 225 ((z).e) (offE eo ((z).e))]) 115 true)) (congrArg Prod.fst hF).symm, trivial⟩
       | exact ret2v rfl (.inl rfl) rfl rfl (congrArg AV.str (by unfold feedR; rw [hF]; first | (exact (if_pos hc27).symm) | (exact (if_neg hc27).symm))) (by rw [hF]; show AV.err 225 (0) (offE eo (0)) = AV.err 225 (i.k.e) (offE eo (i.k.e)); rw [hc27]) ⟨congrArg (fun z : HD => some (ABlk.mk (.agg [.bool (z).c, .nilsl, .i64 (((z).g : Nat) : Int), .str (z).v, .err 225 ((z).e) (offE eo ((z).e))]) 115 true)) (congrArg Prod.fst hF).symm, trivial⟩
     ·first | replace hc27 := of_decide_eq_true hc27 | replace hc27 := of_decide_eq_false hc27 | replace hc27 := eq_of_beq hc27 | replace hc27 := ne_of_beq_false hc27 | simp only [bne_iff_ne, ne_eq] at hc27 | simp only [bne_eq_false_iff_eq] at hc27
      refine .skip ?_
      show Ev _ _ _ _ _
      refine .seq ?_
      refine .region ?_
      refine .q (op_move rfl) trivial rfl ?_
      refine .q (op_assign rfl) trivial rfl ?_
      refine .q (op_assign rfl) trivial rfl ?_
      refine .asR (.err 225 (0) (offE eo (0))) (nil_err _ _) ?_
      refine .nil ?_
      show Ev _ _ _ _ _
      refine .ret ?_
      show RetOk _ _ _ _ _ _ _
      first
       | exact ret2v rfl (.inl rfl) rfl rfl (congrArg AV.str (by unfold feedR; rw [hF]; first | (exact (if_pos hc27).symm) | (exact (if_neg hc27).symm))) (congrArg (fun z : HD => AV.err 225 (z.e) (offE eo (z.e))) (congrArg Prod.fst hF).symm) ⟨congrArg (fun z : HD => some (ABlk.mk (.agg [.bool (z).c, .nilsl, .i64 (((z).g : Nat) : Int), .str (z).v, .err 225 ((z).e) (offE eo ((z).e))]) 115 true)) (congrArg Prod.fst hF).symm, trivial⟩
       | exact ret2v rfl (.inl rfl) rfl rfl (congrArg AV.str (by unfold feedR; rw [hF]; first | (exact (if_pos hc27).symm) | (exact (if_neg hc27).symm))) (by rw [hF]; show AV.err 225 (0) (offE eo (0)) = AV.err 225 (i.k.e) (offE eo (i.k.e)); rw [hc27]) ⟨congrArg (fun z : HD => some (ABlk.mk (.agg [.bool (z).c, .nilsl, .i64 (((z).g : Nat) : Int), .str (z).v, .err 225 ((z).e) (offE eo ((z).e))]) 115 true)) (congrArg Prod.fst hF).symm, trivial⟩
   ·first | replace hg15 := of_decide_eq_true hg15 | replace hg15 := of_decide_eq_false hg15 | replace hg15 := eq_of_beq hg15 | replace hg15 := ne_of_beq_false hg15 | simp only [bne_iff_ne, ne_eq] at hg15 | simp only [bne_eq_false_iff_eq] at hg15
    refine .no ⟨_, rfl, rfl⟩ rfl ?_
    refine .no ⟨_, rfl, rfl⟩ rfl ?_
    refine .no ⟨_, rfl, rfl⟩ rfl ?_
    refine .q (op_pick_false rfl rfl rfl) trivial rfl ?_
    refine .nil ?_
    show Ev _ _ _ _ _
    refine .cond_false rfl rfl ?_
    refine .exit ?_
    show Ev _ _ _ _ _
    have hng : goesD i.k i.q = false := by first | exact goes_s (bne_eq_false_iff_eq.1 hg8) | exact goes_s hg8 | exact goes_e hg15 | exact goes_v (nv_f hc19)
    have hF := i.f.trans (feedD_end hng)
    refine .seq ?_
    refine .seq ?_
    refine .region ?_
    refine .q (op_move rfl) trivial rfl ?_
    refine .q (op_nilCheck rfl) trivial rfl ?_
    refine .q (op_fieldAddr (m := 0) Tryd.underlying115 rfl (by kernel_rfl) rfl) trivial rfl ?_
    refine .as (.ptr 500 4) rfl ?_
    refine .q (op_load Tryd.underlying26 rfl rfl rfl rfl (by show 4 < 5; decide)) trivial rfl ?_
    refine .q (op_eqErrNil (e := i.k.e) Tryd.underlying26 rfl rfl) trivial rfl ?_
    refine .nil ?_
    show Ev _ _ _ _ _
    refine .cond rfl (fun hc27 => ?_) (fun hc27 => ?_)
    ·first | replace hc27 := of_decide_eq_true hc27 | replace hc27 := of_decide_eq_false hc27 | replace hc27 := eq_of_beq hc27 | replace hc27 := ne_of_beq_false hc27 | simp only [bne_iff_ne, ne_eq] at hc27 | simp only [bne_eq_false_iff_eq] at hc27
     refine .seq ?_
     refine .drawn [[], [0], [0, 1], [0, 1, 2], [], [0, 1, 2, 3, 4]] [3] [] (by kernel_rfl) (by kernel_rfl) rfl ?_
     show DK _ [0, 1, 2, 3, 4, 5] _ _ _
     refine .q rfl (op_move rfl) trivial ?_
     refine .q rfl (op_nilCheck rfl) trivial ?_
     refine .q rfl (op_fieldAddr (m := 0) Tryd.underlying115 rfl (by kernel_rfl) rfl) trivial ?_
     refine .as (.ptr 500 4) rfl ?_
     refine .q rfl (op_load Tryd.underlying26 rfl rfl rfl rfl (by show 4 < 5; decide)) trivial ?_
     refine .q rfl (op_assign rfl) trivial ?_
     refine .q rfl (op_assign rfl) trivial ?_
     refine .nil ?_
     show Ev _ _ _ _ _
     refine .ret ?_
     show RetOk _ _ _ _ _ _ _
     first
      | exact ret2v rfl (.inl rfl) rfl rfl (congrArg AV.str (by unfold feedR; rw [hF]; first | (exact (if_pos hc27).symm) | (exact (if_neg hc27).symm))) (congrArg (fun z : HD => AV.err 225 (z.e) (offE eo (z.e))) (congrArg Prod.fst hF).symm) ⟨congrArg (fun z : HD => some (ABlk.mk (.agg [.bool (z).c, .nilsl, .i64 (((z).g : Nat) : Int), .str (z).v, .err 225 ((z).e) (offE eo ((z).e))]) 115 true)) (congrArg Prod.fst hF).symm, trivial⟩
      | exact ret2v rfl (.inl rfl) rfl rfl (congrArg AV.str (by unfold feedR; rw [hF]; first | (exact (if_pos hc27).symm) | (exact (if_neg hc27).symm))) (by rw [hF]; show AV.err 225 (0) (offE eo (0)) = AV.err 225 (i.k.e) (offE eo (i.k.e)); rw [hc27]) ⟨congrArg (fun z : HD => some (ABlk.mk (.agg [.bool (z).c, .nilsl, .i64 (((z).g : Nat) : Int), .str (z).v, .err 225 ((z).e) (offE eo ((z).e))]) 115 true)) (congrArg Prod.fst hF).symm, trivial⟩
    ·first | replace hc27 := of_decide_eq_true hc27 | replace hc27 := of_decide_eq_false hc27 | replace hc27 := eq_of_beq hc27 | replace hc27 := ne_of_beq_false hc27 | simp only [bne_iff_ne, ne_eq] at hc27 | simp only [bne_eq_false_iff_eq] at hc27
     refine .skip ?_
     show Ev _ _ _ _ _
     refine .seq ?_
     refine .region ?_
     refine .q (op_move rfl) trivial rfl ?_
     refine .q (op_assign rfl) trivial rfl ?_
     refine .q (op_assign rfl) trivial rfl ?_
     refine .asR (.err 225 (0) (offE eo (0))) (nil_err _ _) ?_
     refine .nil ?_
     show Ev _ _ _ _ _
     refine .ret ?_
     show RetOk _ _ _ _ _ _ _
     first
      | exact ret2v rfl (.inl rfl) rfl rfl (congrArg AV.str (by unfold feedR; rw [hF]; first | (exact (if_pos hc27).symm) | (exact (if_neg hc27).symm))) (congrArg (fun z : HD => AV.err 225 (z.e) (offE eo (z.e))) (congrArg Prod.fst hF).symm) ⟨congrArg (fun z : HD => some (ABlk.mk (.agg [.bool (z).c, .nilsl, .i64 (((z).g : Nat) : Int), .str (z).v, .err 225 ((z).e) (offE eo ((z).e))]) 115 true)) (congrArg Prod.fst hF).symm, trivial⟩
      | exact ret2v rfl (.inl rfl) rfl rfl (congrArg AV.str (by unfold feedR; rw [hF]; first | (exact (if_pos hc27).symm) | (exact (if_neg hc27).symm))) (by rw [hF]; show AV.err 225 (0) (offE eo (0)) = AV.err 225 (i.k.e) (offE eo (i.k.e)); rw [hc27]) ⟨congrArg (fun z : HD => some (ABlk.mk (.agg [.bool (z).c, .nilsl, .i64 (((z).g : Nat) : Int), .str (z).v, .err 225 ((z).e) (offE eo ((z).e))]) 115 true)) (congrArg Prod.fst hF).symm, trivial⟩
  ·first | replace hg8 := of_decide_eq_true hg8 | replace hg8 := of_decide_eq_false hg8 | replace hg8 := eq_of_beq hg8 | replace hg8 := ne_of_beq_false hg8 | simp only [bne_iff_ne, ne_eq] at hg8 | simp only [bne_eq_false_iff_eq] at hg8
   refine .no ⟨_, rfl, rfl⟩ rfl ?_
   refine .no ⟨_, rfl, rfl⟩ rfl ?_
   refine .no ⟨_, rfl, rfl⟩ rfl ?_
   refine .no ⟨_, rfl, rfl⟩ rfl ?_
   refine .no ⟨_, rfl, rfl⟩ rfl ?_
   refine .q (op_pick_false rfl rfl rfl) trivial rfl ?_
   refine .q (op_move rfl) trivial rfl ?_
   refine .no ⟨_, rfl, rfl⟩ rfl ?_
   refine .no ⟨_, rfl, rfl⟩ rfl ?_
   refine .no ⟨_, rfl, rfl⟩ rfl ?_
   refine .q (op_pick_false rfl rfl rfl) trivial rfl ?_
   refine .nil ?_
   show Ev _ _ _ _ _
   refine .cond_false rfl rfl ?_
   refine .exit ?_
   show Ev _ _ _ _ _
   have hng : goesD i.k i.q = false := by first | exact goes_s (bne_eq_false_iff_eq.1 hg8) | exact goes_s hg8 | exact goes_e hg15 | exact goes_v (nv_f hc19)
   have hF := i.f.trans (feedD_end hng)
   refine .seq ?_
   refine .seq ?_
   refine .region ?_
   refine .q (op_move rfl) trivial rfl ?_
   refine .q (op_nilCheck rfl) trivial rfl ?_
   refine .q (op_fieldAddr (m := 0) Tryd.underlying115 rfl (by kernel_rfl) rfl) trivial rfl ?_
   refine .as (.ptr 500 4) rfl ?_
   refine .q (op_load Tryd.underlying26 rfl rfl rfl rfl (by show 4 < 5; decide)) trivial rfl ?_
   refine .q (op_eqErrNil (e := i.k.e) Tryd.underlying26 rfl rfl) trivial rfl ?_
   refine .nil ?_
   show Ev _ _ _ _ _
   refine .cond rfl (fun hc27 => ?_) (fun hc27 => ?_)
   ·first | replace hc27 := of_decide_eq_true hc27 | replace hc27 := of_decide_eq_false hc27 | replace hc27 := eq_of_beq hc27 | replace hc27 := ne_of_beq_false hc27 | simp only [bne_iff_ne, ne_eq] at hc27 | simp only [bne_eq_false_iff_eq] at hc27
    refine .seq ?_
    refine .drawn [[], [0], [0, 1], [0, 1, 2], [], [0, 1, 2, 3, 4]] [3] [] (by kernel_rfl) (by kernel_rfl) rfl ?_
    show DK _ [0, 1, 2, 3, 4, 5] _ _ _
    refine .q rfl (op_move rfl) trivial ?_
    refine .q rfl (op_nilCheck rfl) trivial ?_
    refine .q rfl (op_fieldAddr (m := 0) Tryd.underlying115 rfl (by kernel_rfl) rfl) trivial ?_
    refine .as (.ptr 500 4) rfl ?_
    refine .q rfl (op_load Tryd.underlying26 rfl rfl rfl rfl (by show 4 < 5; decide)) trivial ?_
    refine .q rfl (op_assign rfl) trivial ?_
    refine .q rfl (op_assign rfl) trivial ?_
    refine .nil ?_
    show Ev _ _ _ _ _
    refine .ret ?_
    show RetOk _ _ _ _ _ _ _
    first
     | exact ret2v rfl (.inl rfl) rfl rfl (congrArg AV.str (by unfold feedR; rw [hF]; first | (exact (if_pos hc27).symm) | (exact (if_neg hc27).symm))) (congrArg (fun z : HD => AV.err 225 (z.e) (offE eo (z.e))) (congrArg Prod.fst hF).symm) ⟨congrArg (fun z : HD => some (ABlk.mk (.agg [.bool (z).c, .nilsl, .i64 (((z).g : Nat) : Int), .str (z).v, .err 225 ((z).e) (offE eo ((z).e))]) 115 true)) (congrArg Prod.fst hF).symm, trivial⟩
     | exact ret2v rfl (.inl rfl) rfl rfl (congrArg AV.str (by unfold feedR; rw [hF]; first | (exact (if_pos hc27).symm) | (exact (if_neg hc27).symm))) (by rw [hF]; show AV.err 225 (0) (offE eo (0)) = AV.err 225 (i.k.e) (offE eo (i.k.e)); rw [hc27]) ⟨congrArg (fun z : HD => some (ABlk.mk (.agg [.bool (z).c, .nilsl, .i64 (((z).g : Nat) : Int), .str (z).v, .err 225 ((z).e) (offE eo ((z).e))]) 115 true)) (congrArg Prod.fst hF).symm, trivial⟩
   ·first | replace hc27 := of_decide_eq_true hc27 | replace hc27 := of_decide_eq_false hc27 | replace hc27 := eq_of_beq hc27 | replace hc27 := ne_of_beq_false hc27 | simp only [bne_iff_ne, ne_eq] at hc27 | simp only [bne_eq_false_iff_eq] at hc27
    refine .skip ?_
    show Ev _ _ _ _ _
    refine .seq ?_
    refine .region ?_
    refine .q (op_move rfl) trivial rfl ?_
    refine .q (op_assign rfl) trivial rfl ?_
    refine .q (op_assign rfl) trivial rfl ?_
    refine .asR (.err 225 (0) (offE eo (0))) (nil_err _ _) ?_
    refine .nil ?_
    show Ev _ _ _ _ _
    refine .ret ?_
    show RetOk _ _ _ _ _ _ _
    first
     | exact ret2v rfl (.inl rfl) rfl rfl (congrArg AV.str (by unfold feedR; rw [hF]; first | (exact (if_pos hc27).symm) | (exact (if_neg hc27).symm))) (congrArg (fun z : HD => AV.err 225 (z.e) (offE eo (z.e))) (congrArg Prod.fst hF).symm) ⟨congrArg (fun z : HD => some (ABlk.mk (.agg [.bool (z).c, .nilsl, .i64 (((z).g : Nat) : Int), .str (z).v, .err 225 ((z).e) (offE eo ((z).e))]) 115 true)) (congrArg Prod.fst hF).symm, trivial⟩
     | exact ret2v rfl (.inl rfl) rfl rfl (congrArg AV.str (by unfold feedR; rw [hF]; first | (exact (if_pos hc27).symm) | (exact (if_neg hc27).symm))) (by rw [hF]; show AV.err 225 (0) (offE eo (0)) = AV.err 225 (i.k.e) (offE eo (i.k.e)); rw [hc27]) ⟨congrArg (fun z : HD => some (ABlk.mk (.agg [.bool (z).c, .nilsl, .i64 (((z).g : Nat) : Int), .str (z).v, .err 225 ((z).e) (offE eo ((z).e))]) 115 true)) (congrArg Prod.fst hF).symm, trivial⟩
 ·dsimp only
  refine .seq ?_
  refine .seq ?_
  refine .region ?_
  refine .q (op_move rfl) trivial rfl ?_
  refine .q (op_eqS rfl rfl rfl) trivial rfl ?_
  refine .q (op_move rfl) trivial rfl ?_
  refine .know (b' := false) (by rw [i.z]; rfl) ?_
  refine .no ⟨_, rfl, rfl⟩ rfl ?_
  refine .no ⟨_, rfl, rfl⟩ rfl ?_
  refine .no ⟨_, rfl, rfl⟩ rfl ?_
  refine .no ⟨_, rfl, rfl⟩ rfl ?_
  refine .no ⟨_, rfl, rfl⟩ rfl ?_
  refine .q (op_pick_false rfl rfl rfl) trivial rfl ?_
  refine .q (op_move rfl) trivial rfl ?_
  refine .no ⟨_, rfl, rfl⟩ rfl ?_
  refine .no ⟨_, rfl, rfl⟩ rfl ?_
  refine .no ⟨_, rfl, rfl⟩ rfl ?_
  refine .q (op_pick_false rfl rfl rfl) trivial rfl ?_
  refine .nil ?_
  show Ev _ _ _ _ _
  refine .cond_false rfl rfl ?_
  refine .exit ?_
  show Ev _ _ _ _ _
  have hng : goesD i.k i.q = false := by first | exact goes_s (bne_eq_false_iff_eq.1 hg8) | exact goes_s hg8 | exact goes_e hg15 | exact goes_v (nv_f hc19) | exact goes_s i.z
  have hF := i.f.trans (feedD_end hng)
  exact absurd hfin (by rw [hF]; exact i.p)
set_option maxRecDepth 100000 in
theorem feed_ns (h : HD) (s : List UInt8) (hf : h.fine) (hp : h.p = []) (hs : s.length ≤ 9000000) (hfin : (feedD h s).1.p ≠ []) (eo : Nat → Nat × Nat) : Meets Tryd.prog 31 [.ptr 500 0, .str s] [(500, some ⟨.agg [.bool (h).c, .nilsl, .i64 (((h).g : Nat) : Int), .str (h).v, .err 225 ((h).e) (offE eo ((h).e))], 115, true⟩), (0, some ⟨.agg [.err 225 (3) (offE eo (3))], errT, false⟩), (4, some ⟨.agg [.err 225 (4) (offE eo (4))], errT, false⟩), (11, some ⟨.agg [.err 225 (12) (offE eo (12))], errT, false⟩)] (.tup [.str (feedR h s), .err 225 ((feedD h s).1.e) (offE eo ((feedD h s).1.e))]) [(500, some ⟨.agg [.bool ((feedD h s).1).c, .sl 1000 0 (feedD h s).1.p.length 1, .i64 ((((feedD h s).1).g : Nat) : Int), .str ((feedD h s).1).v, .err 225 (((feedD h s).1).e) (offE eo (((feedD h s).1).e))], 115, true⟩), (1000, some ⟨.aggB ((feedD h s).1.p), 5, true⟩)] := by
 refine meets_of_ev (nt := 33) Tryd.func31 rfl rfl (Nat.le_of_ble_eq_true rfl) ?_
 refine .seq ?_
 refine .region ?_
 refine .q (op_assign rfl) trivial rfl ?_
 refine .q (op_assign rfl) trivial rfl ?_
 refine .asR (.err 225 (0) (offE eo (0))) (nil_err _ _) ?_
 refine .nil ?_
 show Ev _ _ _ _ _
 refine .seq ?_
 refine .block ?_
 refine Ev.loop (ι := NI h s ⊕ SI h s) (fun q => match q with | .inl i => ⟨[(0, .ptr 500 0), (1, .str i.q), (4, .str []), (5, .err 225 (0) (offE eo (0)))], [(500, some ⟨.agg [.bool (i.k).c, .nilsl, .i64 (((i.k).g : Nat) : Int), .str (i.k).v, .err 225 ((i.k).e) (offE eo ((i.k).e))], 115, true⟩), (0, some ⟨.agg [.err 225 (3) (offE eo (3))], errT, false⟩), (4, some ⟨.agg [.err 225 (4) (offE eo (4))], errT, false⟩), (11, some ⟨.agg [.err 225 (12) (offE eo (12))], errT, false⟩)], 1008⟩ | .inr i => ⟨[(0, .ptr 500 0), (1, .str i.q), (4, .str []), (5, .err 225 (0) (offE eo (0)))], [(500, some ⟨.agg [.bool (i.k).c, .sl 1000 0 i.k.p.length 1, .i64 (((i.k).g : Nat) : Int), .str (i.k).v, .err 225 ((i.k).e) (offE eo ((i.k).e))], 115, true⟩), (1000, some ⟨.aggB (i.k.p), 5, true⟩), (0, some ⟨.agg [.err 225 (3) (offE eo (3))], errT, false⟩), (4, some ⟨.agg [.err 225 (4) (offE eo (4))], errT, false⟩), (11, some ⟨.agg [.err 225 (12) (offE eo (12))], errT, false⟩)], 1008⟩) (fun q => match q with | .inl i => i.q.length | .inr i => 0) (.inl ⟨h, s, rfl, hf, hp, Nat.le_refl _⟩) (StLe.mk [] rfl rfl ⟨⟨_, rfl, by first | rfl | (simp only [AV.ren]; congr 1; omega), rfl⟩, ⟨_, rfl, by first | rfl | (simp only [AV.ren]; congr 1; omega), rfl⟩, ⟨_, rfl, by first | rfl | (simp only [AV.ren]; congr 1; omega), rfl⟩, ⟨_, rfl, by first | rfl | (simp only [AV.ren]; congr 1; omega), rfl⟩, trivial⟩ ⟨⟨_, _, rfl, rfl, rfl, rfl, id, rfl⟩, ⟨_, _, rfl, rfl, rfl, rfl, id, rfl⟩, ⟨_, _, rfl, rfl, rfl, rfl, id, rfl⟩, ⟨_, _, rfl, rfl, rfl, rfl, id, rfl⟩, trivial⟩) ?_
 rintro (i | i)
 ·dsimp only
  refine .seq ?_
  refine .seq ?_
  refine .region ?_
  refine .q (op_move rfl) trivial rfl ?_
  refine .q (op_eqS rfl rfl rfl) trivial rfl ?_
  refine .q (op_move rfl) trivial rfl ?_
  refine .split (fun hg8 => ?_) (fun hg8 => ?_)
  ·first | replace hg8 := of_decide_eq_true hg8 | replace hg8 := of_decide_eq_false hg8 | replace hg8 := eq_of_beq hg8 | replace hg8 := ne_of_beq_false hg8 | simp only [bne_iff_ne, ne_eq] at hg8 | simp only [bne_eq_false_iff_eq] at hg8
   refine .q (op_move rfl) ⟨_, rfl, rfl⟩ rfl ?_
   refine .q (op_nilCheck rfl) ⟨_, rfl, rfl⟩ rfl ?_
   refine .q (op_fieldAddr (m := 0) Tryd.underlying115 rfl (by kernel_rfl) rfl) ⟨_, rfl, rfl⟩ rfl ?_
   refine .as (.ptr 500 4) rfl ?_
   refine .q (op_load Tryd.underlying26 rfl rfl rfl rfl (by show 4 < 5; decide)) ⟨_, rfl, rfl⟩ rfl ?_
   refine .q (op_eqErrNil (e := i.k.e) Tryd.underlying26 rfl rfl) ⟨_, rfl, rfl⟩ rfl ?_
   refine .q (op_pick_true rfl rfl rfl) trivial rfl ?_
   refine .q (op_move rfl) trivial rfl ?_
   refine .split (fun hg15 => ?_) (fun hg15 => ?_)
   ·first | replace hg15 := of_decide_eq_true hg15 | replace hg15 := of_decide_eq_false hg15 | replace hg15 := eq_of_beq hg15 | replace hg15 := ne_of_beq_false hg15 | simp only [bne_iff_ne, ne_eq] at hg15 | simp only [bne_eq_false_iff_eq] at hg15
    refine .q (op_move rfl) ⟨_, rfl, rfl⟩ rfl ?_
    refine .q (op_call (U := []) [(500, 500)] [] (done_n i.k eo) Tryd.func30 (by kernel_rfl) rfl rfl rfl (⟨⟨_, rfl, rfl, rfl⟩, trivial⟩) (⟨⟨_, _, rfl, rfl, rfl, rfl, (fun h => by cases h), rfl⟩, trivial⟩) (trivial) (⟨(fun h => by cases h), trivial⟩) rfl) ⟨_, rfl, rfl⟩ rfl ?_
    refine .q (op_notB rfl) ⟨_, rfl, rfl⟩ rfl ?_
    refine .q (op_pick_true rfl rfl rfl) trivial rfl ?_
    refine .nil ?_
    show Ev _ _ _ _ _
    refine .cond rfl (fun hc19 => ?_) (fun hc19 => ?_)
    ·skip
     refine .skip ?_
     show Ev _ _ _ _ _
     refine .block ?_
     refine .region ?_
     refine .q (op_move rfl) trivial rfl ?_
     refine .q (op_move rfl) trivial rfl ?_
     refine dite (keepsD i.k i.q = true) (fun hk => ?_) (fun hk => ?_)
     ·refine .a (op_call (U := [(500, some ⟨.agg [.bool ((readD i.k i.q).1).c, .sl 1008 0 (readD i.k i.q).1.p.length 1, .i64 ((((readD i.k i.q).1).g : Nat) : Int), .str ((readD i.k i.q).1).v, .err 225 (((readD i.k i.q).1).e) (offE eo (((readD i.k i.q).1).e))], 115, true⟩), (1008, some ⟨.aggB (readD i.k i.q).1.p, 5, true⟩)]) [(500, 500)] [(1008, 1000)] (read_ns i.k i.q (Nat.le_trans i.le hs) (i.fine.g) (i.fine.p) (List.length_pos_iff.2 hg8) (i.p) hk eo) Tryd.func71 (by kernel_rfl) rfl rfl rfl (⟨⟨_, rfl, rfl, rfl⟩, ⟨_, rfl, rfl, rfl⟩, trivial⟩) (⟨⟨_, _, rfl, rfl, rfl, rfl, id, rfl⟩, ⟨_, _, rfl, rfl, rfl, rfl, (fun h => by cases h), rfl⟩, ⟨_, _, rfl, rfl, rfl, rfl, (fun h => by cases h), rfl⟩, ⟨_, _, rfl, rfl, rfl, rfl, (fun h => by cases h), rfl⟩, trivial⟩) (⟨⟨500, _, rfl, rfl, rfl, rfl, .inr ⟨rfl, _, rfl, rfl⟩⟩, ⟨1000, _, rfl, rfl, rfl, rfl, .inl rfl⟩, trivial⟩) (⟨(fun _ => ⟨500, _, rfl, rfl⟩), (fun h => by cases h), (fun h => by cases h), (fun h => by cases h), trivial⟩) rfl) trivial rfl ?_
      refine .q (op_assign rfl) trivial rfl ?_
      refine .nil ?_
      exact ⟨.inr (i.ns hg8 hg15 (nv_t hc19) hk), List.length_pos_iff.2 hg8, StLe.mk [(1000, 1008)] rfl rfl ⟨⟨_, rfl, by first | rfl | (simp only [AV.ren]; congr 1; omega), rfl⟩, ⟨_, rfl, by first | rfl | (simp only [AV.ren]; congr 1; omega), rfl⟩, ⟨_, rfl, by first | rfl | (simp only [AV.ren]; congr 1; omega), rfl⟩, ⟨_, rfl, by first | rfl | (simp only [AV.ren]; congr 1; omega), rfl⟩, trivial⟩ ⟨⟨_, _, rfl, rfl, rfl, rfl, id, rfl⟩, ⟨_, _, rfl, rfl, rfl, rfl, id, rfl⟩, ⟨_, _, rfl, rfl, rfl, rfl, id, rfl⟩, ⟨_, _, rfl, rfl, rfl, rfl, id, rfl⟩, ⟨_, _, rfl, rfl, rfl, rfl, id, rfl⟩, trivial⟩⟩
     ·refine .a (op_call (U := [(500, some ⟨.agg [.bool ((readD i.k i.q).1).c, .nilsl, .i64 ((((readD i.k i.q).1).g : Nat) : Int), .str ((readD i.k i.q).1).v, .err 225 (((readD i.k i.q).1).e) (offE eo (((readD i.k i.q).1).e))], 115, true⟩)]) [(500, 500)] [] (read_nn i.k i.q (Nat.le_trans i.le hs) (i.fine.g) (i.fine.p) (List.length_pos_iff.2 hg8) (i.p) (Bool.eq_false_iff.2 hk) eo) Tryd.func71 (by kernel_rfl) rfl rfl rfl (⟨⟨_, rfl, rfl, rfl⟩, ⟨_, rfl, rfl, rfl⟩, trivial⟩) (⟨⟨_, _, rfl, rfl, rfl, rfl, id, rfl⟩, ⟨_, _, rfl, rfl, rfl, rfl, (fun h => by cases h), rfl⟩, ⟨_, _, rfl, rfl, rfl, rfl, (fun h => by cases h), rfl⟩, ⟨_, _, rfl, rfl, rfl, rfl, (fun h => by cases h), rfl⟩, trivial⟩) (⟨⟨500, _, rfl, rfl, rfl, rfl, .inr ⟨rfl, _, rfl, rfl⟩⟩, trivial⟩) (⟨(fun _ => ⟨500, _, rfl, rfl⟩), (fun h => by cases h), (fun h => by cases h), (fun h => by cases h), trivial⟩) rfl) trivial rfl ?_
      refine .q (op_assign rfl) trivial rfl ?_
      refine .nil ?_
      exact ⟨.inl (i.nn hg8 hg15 (nv_t hc19) (Bool.eq_false_iff.2 hk)), readD_lt hg8, StLe.mk [] rfl rfl ⟨⟨_, rfl, by first | rfl | (simp only [AV.ren]; congr 1; omega), rfl⟩, ⟨_, rfl, by first | rfl | (simp only [AV.ren]; congr 1; omega), rfl⟩, ⟨_, rfl, by first | rfl | (simp only [AV.ren]; congr 1; omega), rfl⟩, ⟨_, rfl, by first | rfl | (simp only [AV.ren]; congr 1; omega), rfl⟩, trivial⟩ ⟨⟨_, _, rfl, rfl, rfl, rfl, id, rfl⟩, ⟨_, _, rfl, rfl, rfl, rfl, id, rfl⟩, ⟨_, _, rfl, rfl, rfl, rfl, id, rfl⟩, ⟨_, _, rfl, rfl, rfl, rfl, id, rfl⟩, trivial⟩⟩
    ·skip
     refine .exit ?_
     show Ev _ _ _ _ _
     have hng : goesD i.k i.q = false := by first | exact goes_s (bne_eq_false_iff_eq.1 hg8) | exact goes_s hg8 | exact goes_e hg15 | exact goes_v (nv_f hc19)
     have hF := i.f.trans (feedD_end hng)
     exact absurd (show (feedD h s).1.p = [] by rw [hF]; exact i.p) hfin
   ·first | replace hg15 := of_decide_eq_true hg15 | replace hg15 := of_decide_eq_false hg15 | replace hg15 := eq_of_beq hg15 | replace hg15 := ne_of_beq_false hg15 | simp only [bne_iff_ne, ne_eq] at hg15 | simp only [bne_eq_false_iff_eq] at hg15
    refine .no ⟨_, rfl, rfl⟩ rfl ?_
    refine .no ⟨_, rfl, rfl⟩ rfl ?_
    refine .no ⟨_, rfl, rfl⟩ rfl ?_
    refine .q (op_pick_false rfl rfl rfl) trivial rfl ?_
    refine .nil ?_
    show Ev _ _ _ _ _
    refine .cond_false rfl rfl ?_
    refine .exit ?_
    show Ev _ _ _ _ _
    have hng : goesD i.k i.q = false := by first | exact goes_s (bne_eq_false_iff_eq.1 hg8) | exact goes_s hg8 | exact goes_e hg15 | exact goes_v (nv_f hc19)
    have hF := i.f.trans (feedD_end hng)
    exact absurd (show (feedD h s).1.p = [] by rw [hF]; exact i.p) hfin
  ·first | replace hg8 := of_decide_eq_true hg8 | replace hg8 := of_decide_eq_false hg8 | replace hg8 := eq_of_beq hg8 | replace hg8 := ne_of_beq_false hg8 | simp only [bne_iff_ne, ne_eq] at hg8 | simp only [bne_eq_false_iff_eq] at hg8
   refine .no ⟨_, rfl, rfl⟩ rfl ?_
   refine .no ⟨_, rfl, rfl⟩ rfl ?_
   refine .no ⟨_, rfl, rfl⟩ rfl ?_
   refine .no ⟨_, rfl, rfl⟩ rfl ?_
   refine .no ⟨_, rfl, rfl⟩ rfl ?_
   refine .q (op_pick_false rfl rfl rfl) trivial rfl ?_
   refine .q (op_move rfl) trivial rfl ?_
   refine .no ⟨_, rfl, rfl⟩ rfl ?_
   refine .no ⟨_, rfl, rfl⟩ rfl ?_
   refine .no ⟨_, rfl, rfl⟩ rfl ?_
   refine .q (op_pick_false rfl rfl rfl) trivial rfl ?_
   refine .nil ?_
   show Ev _ _ _ _ _
   refine .cond_false rfl rfl ?_
   refine .exit ?_
   show Ev _ _ _ _ _
   have hng : goesD i.k i.q = false := by first | exact goes_s (bne_eq_false_iff_eq.1 hg8) | exact goes_s hg8 | exact goes_e hg15 | exact goes_v (nv_f hc19)
   have hF := i.f.trans (feedD_end hng)
   exact absurd (show (feedD h s).1.p = [] by rw [hF]; exact i.p) hfin
 ·dsimp only
  refine .seq ?_
  refine .seq ?_
  refine .region ?_
  refine .q (op_move rfl) trivial rfl ?_
  refine .q (op_eqS rfl rfl rfl) trivial rfl ?_
  refine .q (op_move rfl) trivial rfl ?_
  refine .know (b' := false) (by rw [i.z]; rfl) ?_
  refine .no ⟨_, rfl, rfl⟩ rfl ?_
  refine .no ⟨_, rfl, rfl⟩ rfl ?_
  refine .no ⟨_, rfl, rfl⟩ rfl ?_
  refine .no ⟨_, rfl, rfl⟩ rfl ?_
  refine .no ⟨_, rfl, rfl⟩ rfl ?_
  refine .q (op_pick_false rfl rfl rfl) trivial rfl ?_
  refine .q (op_move rfl) trivial rfl ?_
  refine .no ⟨_, rfl, rfl⟩ rfl ?_
  refine .no ⟨_, rfl, rfl⟩ rfl ?_
  refine .no ⟨_, rfl, rfl⟩ rfl ?_
  refine .q (op_pick_false rfl rfl rfl) trivial rfl ?_
  refine .nil ?_
  show Ev _ _ _ _ _
  refine .cond_false rfl rfl ?_
  refine .exit ?_
  show Ev _ _ _ _ _
  have hng : goesD i.k i.q = false := by first | exact goes_s (bne_eq_false_iff_eq.1 hg8) | exact goes_s hg8 | exact goes_e hg15 | exact goes_v (nv_f hc19) | exact goes_s i.z
  have hF := i.f.trans (feedD_end hng)
  refine .seq ?_
  refine .seq ?_
  refine .region ?_
  refine .q (op_move rfl) trivial rfl ?_
  refine .q (op_nilCheck rfl) trivial rfl ?_
  refine .q (op_fieldAddr (m := 0) Tryd.underlying115 rfl (by kernel_rfl) rfl) trivial rfl ?_
  refine .as (.ptr 500 4) rfl ?_
  refine .q (op_load Tryd.underlying26 rfl rfl rfl rfl (by show 4 < 5; decide)) trivial rfl ?_
  refine .q (op_eqErrNil (e := i.k.e) Tryd.underlying26 rfl rfl) trivial rfl ?_
  refine .nil ?_
  show Ev _ _ _ _ _
  refine .cond rfl (fun hc27 => ?_) (fun hc27 => ?_)
  ·first | replace hc27 := of_decide_eq_true hc27 | replace hc27 := of_decide_eq_false hc27 | replace hc27 := eq_of_beq hc27 | replace hc27 := ne_of_beq_false hc27 | simp only [bne_iff_ne, ne_eq] at hc27 | simp only [bne_eq_false_iff_eq] at hc27
   refine .seq ?_
   refine .drawn [[], [0], [0, 1], [0, 1, 2], [], [0, 1, 2, 3, 4]] [3] [] (by kernel_rfl) (by kernel_rfl) rfl ?_
   show DK _ [0, 1, 2, 3, 4, 5] _ _ _
   refine .q rfl (op_move rfl) trivial ?_
   refine .q rfl (op_nilCheck rfl) trivial ?_
   refine .q rfl (op_fieldAddr (m := 0) Tryd.underlying115 rfl (by kernel_rfl) rfl) trivial ?_
   refine .as (.ptr 500 4) rfl ?_
   refine .q rfl (op_load Tryd.underlying26 rfl rfl rfl rfl (by show 4 < 5; decide)) trivial ?_
   refine .q rfl (op_assign rfl) trivial ?_
   refine .q rfl (op_assign rfl) trivial ?_
   refine .nil ?_
   show Ev _ _ _ _ _
   refine .ret ?_
   show RetOk _ _ _ _ _ _ _
   first
    | exact ret2v rfl (.inl rfl) rfl rfl (congrArg AV.str (by unfold feedR; rw [hF]; first | (exact (if_pos hc27).symm) | (exact (if_neg hc27).symm))) (congrArg (fun z : HD => AV.err 225 (z.e) (offE eo (z.e))) (congrArg Prod.fst hF).symm) ⟨congrArg (fun z : HD => some (ABlk.mk (.agg [.bool (z).c, .sl 1000 0 z.p.length 1, .i64 (((z).g : Nat) : Int), .str (z).v, .err 225 ((z).e) (offE eo ((z).e))]) 115 true)) (congrArg Prod.fst hF).symm, congrArg (fun z : HD => some (ABlk.mk (.aggB z.p) 5 true)) (congrArg Prod.fst hF).symm, trivial⟩
    | exact ret2v rfl (.inl rfl) rfl rfl (congrArg AV.str (by unfold feedR; rw [hF]; first | (exact (if_pos hc27).symm) | (exact (if_neg hc27).symm))) (by rw [hF]; show AV.err 225 (0) (offE eo (0)) = AV.err 225 (i.k.e) (offE eo (i.k.e)); rw [hc27]) ⟨congrArg (fun z : HD => some (ABlk.mk (.agg [.bool (z).c, .sl 1000 0 z.p.length 1, .i64 (((z).g : Nat) : Int), .str (z).v, .err 225 ((z).e) (offE eo ((z).e))]) 115 true)) (congrArg Prod.fst hF).symm, congrArg (fun z : HD => some (ABlk.mk (.aggB z.p) 5 true)) (congrArg Prod.fst hF).symm, trivial⟩
  ·first | replace hc27 := of_decide_eq_true hc27 | replace hc27 := of_decide_eq_false hc27 | replace hc27 := eq_of_beq hc27 | replace hc27 := ne_of_beq_false hc27 | simp only [bne_iff_ne, ne_eq] at hc27 | simp only [bne_eq_false_iff_eq] at hc27
   refine .skip ?_
   show Ev _ _ _ _ _
   refine .seq ?_
   refine .region ?_
   refine .q (op_move rfl) trivial rfl ?_
   refine .q (op_assign rfl) trivial rfl ?_
   refine .q (op_assign rfl) trivial rfl ?_
   refine .asR (.err 225 (0) (offE eo (0))) (nil_err _ _) ?_
   refine .nil ?_
   show Ev _ _ _ _ _
   refine .ret ?_
   show RetOk _ _ _ _ _ _ _
   first
    | exact ret2v rfl (.inl rfl) rfl rfl (congrArg AV.str (by unfold feedR; rw [hF]; first | (exact (if_pos hc27).symm) | (exact (if_neg hc27).symm))) (congrArg (fun z : HD => AV.err 225 (z.e) (offE eo (z.e))) (congrArg Prod.fst hF).symm) ⟨congrArg (fun z : HD => some (ABlk.mk (.agg [.bool (z).c, .sl 1000 0 z.p.length 1, .i64 (((z).g : Nat) : Int), .str (z).v, .err 225 ((z).e) (offE eo ((z).e))]) 115 true)) (congrArg Prod.fst hF).symm, congrArg (fun z : HD => some (ABlk.mk (.aggB z.p) 5 true)) (congrArg Prod.fst hF).symm, trivial⟩
    | exact ret2v rfl (.inl rfl) rfl rfl (congrArg AV.str (by unfold feedR; rw [hF]; first | (exact (if_pos hc27).symm) | (exact (if_neg hc27).symm))) (by rw [hF]; show AV.err 225 (0) (offE eo (0)) = AV.err 225 (i.k.e) (offE eo (i.k.e)); rw [hc27]) ⟨congrArg (fun z : HD => some (ABlk.mk (.agg [.bool (z).c, .sl 1000 0 z.p.length 1, .i64 (((z).g : Nat) : Int), .str (z).v, .err 225 ((z).e) (offE eo ((z).e))]) 115 true)) (congrArg Prod.fst hF).symm, congrArg (fun z : HD => some (ABlk.mk (.aggB z.p) 5 true)) (congrArg Prod.fst hF).symm, trivial⟩
set_option maxRecDepth 100000 in
theorem feed_sn (h : HD) (s : List UInt8) (hf : h.fine) (hp : h.p ≠ []) (hs : s.length ≤ 9000000) (hgo : goesD h s = true) (hfin : (feedD h s).1.p = []) (eo : Nat → Nat × Nat) : Meets Tryd.prog 31 [.ptr 500 0, .str s] [(500, some ⟨.agg [.bool (h).c, .sl 501 0 h.p.length 1, .i64 (((h).g : Nat) : Int), .str (h).v, .err 225 ((h).e) (offE eo ((h).e))], 115, true⟩), (501, some ⟨.aggB (h.p), 5, true⟩), (0, some ⟨.agg [.err 225 (3) (offE eo (3))], errT, false⟩), (4, some ⟨.agg [.err 225 (4) (offE eo (4))], errT, false⟩), (11, some ⟨.agg [.err 225 (12) (offE eo (12))], errT, false⟩)] (.tup [.str (feedR h s), .err 225 ((feedD h s).1.e) (offE eo ((feedD h s).1.e))]) [(500, some ⟨.agg [.bool ((feedD h s).1).c, .nilsl, .i64 ((((feedD h s).1).g : Nat) : Int), .str ((feedD h s).1).v, .err 225 (((feedD h s).1).e) (offE eo (((feedD h s).1).e))], 115, true⟩)] := by
 refine meets_of_ev (nt := 33) Tryd.func31 rfl rfl (Nat.le_of_ble_eq_true rfl) ?_
 refine .seq ?_
 refine .region ?_
 refine .q (op_assign rfl) trivial rfl ?_
 refine .q (op_assign rfl) trivial rfl ?_
 refine .asR (.err 225 (0) (offE eo (0))) (nil_err _ _) ?_
 refine .nil ?_
 show Ev _ _ _ _ _
 refine .seq ?_
 refine .block ?_
 refine Ev.loop (ι := Option (NI h s ⊕ SI h s)) (fun q => match q with | none => ⟨[(0, .ptr 500 0), (1, .str s), (4, .str []), (5, .err 225 (0) (offE eo (0)))], [(500, some ⟨.agg [.bool (h).c, .sl 501 0 h.p.length 1, .i64 (((h).g : Nat) : Int), .str (h).v, .err 225 ((h).e) (offE eo ((h).e))], 115, true⟩), (501, some ⟨.aggB (h.p), 5, true⟩), (0, some ⟨.agg [.err 225 (3) (offE eo (3))], errT, false⟩), (4, some ⟨.agg [.err 225 (4) (offE eo (4))], errT, false⟩), (11, some ⟨.agg [.err 225 (12) (offE eo (12))], errT, false⟩)], 1008⟩ | some (.inl i) => ⟨[(0, .ptr 500 0), (1, .str i.q), (4, .str []), (5, .err 225 (0) (offE eo (0)))], [(500, some ⟨.agg [.bool (i.k).c, .nilsl, .i64 (((i.k).g : Nat) : Int), .str (i.k).v, .err 225 ((i.k).e) (offE eo ((i.k).e))], 115, true⟩), (0, some ⟨.agg [.err 225 (3) (offE eo (3))], errT, false⟩), (4, some ⟨.agg [.err 225 (4) (offE eo (4))], errT, false⟩), (11, some ⟨.agg [.err 225 (12) (offE eo (12))], errT, false⟩)], 1008⟩ | some (.inr i) => ⟨[(0, .ptr 500 0), (1, .str i.q), (4, .str []), (5, .err 225 (0) (offE eo (0)))], [(500, some ⟨.agg [.bool (i.k).c, .sl 1000 0 i.k.p.length 1, .i64 (((i.k).g : Nat) : Int), .str (i.k).v, .err 225 ((i.k).e) (offE eo ((i.k).e))], 115, true⟩), (1000, some ⟨.aggB (i.k.p), 5, true⟩), (0, some ⟨.agg [.err 225 (3) (offE eo (3))], errT, false⟩), (4, some ⟨.agg [.err 225 (4) (offE eo (4))], errT, false⟩), (11, some ⟨.agg [.err 225 (12) (offE eo (12))], errT, false⟩)], 1008⟩) (fun q => match q with | none => s.length + 1 | some (.inl i) => i.q.length | some (.inr i) => 0) none (StLe.mk [] rfl rfl ⟨⟨_, rfl, by first | rfl | (simp only [AV.ren]; congr 1; omega), rfl⟩, ⟨_, rfl, by first | rfl | (simp only [AV.ren]; congr 1; omega), rfl⟩, ⟨_, rfl, by first | rfl | (simp only [AV.ren]; congr 1; omega), rfl⟩, ⟨_, rfl, by first | rfl | (simp only [AV.ren]; congr 1; omega), rfl⟩, trivial⟩ ⟨⟨_, _, rfl, rfl, rfl, rfl, id, rfl⟩, ⟨_, _, rfl, rfl, rfl, rfl, id, rfl⟩, ⟨_, _, rfl, rfl, rfl, rfl, id, rfl⟩, ⟨_, _, rfl, rfl, rfl, rfl, id, rfl⟩, ⟨_, _, rfl, rfl, rfl, rfl, id, rfl⟩, trivial⟩) ?_
 rintro (_ | (i | i))
 ·dsimp only
  refine .seq ?_
  refine .seq ?_
  refine .region ?_
  refine .q (op_move rfl) trivial rfl ?_
  refine .q (op_eqS rfl rfl rfl) trivial rfl ?_
  refine .q (op_move rfl) trivial rfl ?_
  refine .split (fun hg8 => ?_) (fun hg8 => ?_)
  ·first | replace hg8 := of_decide_eq_true hg8 | replace hg8 := of_decide_eq_false hg8 | replace hg8 := eq_of_beq hg8 | replace hg8 := ne_of_beq_false hg8 | simp only [bne_iff_ne, ne_eq] at hg8 | simp only [bne_eq_false_iff_eq] at hg8
   refine .q (op_move rfl) ⟨_, rfl, rfl⟩ rfl ?_
   refine .q (op_nilCheck rfl) ⟨_, rfl, rfl⟩ rfl ?_
   refine .q (op_fieldAddr (m := 0) Tryd.underlying115 rfl (by kernel_rfl) rfl) ⟨_, rfl, rfl⟩ rfl ?_
   refine .as (.ptr 500 4) rfl ?_
   refine .q (op_load Tryd.underlying26 rfl rfl rfl rfl (by show 4 < 5; decide)) ⟨_, rfl, rfl⟩ rfl ?_
   refine .q (op_eqErrNil (e := h.e) Tryd.underlying26 rfl rfl) ⟨_, rfl, rfl⟩ rfl ?_
   refine .q (op_pick_true rfl rfl rfl) trivial rfl ?_
   refine .q (op_move rfl) trivial rfl ?_
   refine .split (fun hg15 => ?_) (fun hg15 => ?_)
   ·first | replace hg15 := of_decide_eq_true hg15 | replace hg15 := of_decide_eq_false hg15 | replace hg15 := eq_of_beq hg15 | replace hg15 := ne_of_beq_false hg15 | simp only [bne_iff_ne, ne_eq] at hg15 | simp only [bne_eq_false_iff_eq] at hg15
    refine .q (op_move rfl) ⟨_, rfl, rfl⟩ rfl ?_
    refine .q (op_call (U := []) [(500, 500), (501, 501)] [] (done_s h eo) Tryd.func30 (by kernel_rfl) rfl rfl rfl (⟨⟨_, rfl, rfl, rfl⟩, trivial⟩) (⟨⟨_, _, rfl, rfl, rfl, rfl, (fun h => by cases h), rfl⟩, trivial⟩) (trivial) (⟨(fun h => by cases h), trivial⟩) rfl) ⟨_, rfl, rfl⟩ rfl ?_
    refine .q (op_notB rfl) ⟨_, rfl, rfl⟩ rfl ?_
    refine .q (op_pick_true rfl rfl rfl) trivial rfl ?_
    refine .nil ?_
    show Ev _ _ _ _ _
    refine .cond rfl (fun hc19 => ?_) (fun hc19 => ?_)
    ·skip
     refine .skip ?_
     show Ev _ _ _ _ _
     refine .block ?_
     refine .region ?_
     refine .q (op_move rfl) trivial rfl ?_
     refine .q (op_move rfl) trivial rfl ?_
     refine dite (keepsD h s = true) (fun hk => ?_) (fun hk => ?_)
     ·refine .a (op_call (U := [(500, some ⟨.agg [.bool ((readD h s).1).c, .sl 1008 0 (readD h s).1.p.length 1, .i64 ((((readD h s).1).g : Nat) : Int), .str ((readD h s).1).v, .err 225 (((readD h s).1).e) (offE eo (((readD h s).1).e))], 115, true⟩), (1008, some ⟨.aggB (readD h s).1.p, 5, true⟩), (501, none)]) [(500, 500), (501, 501)] [(1008, 1000)] (read_ss h s (hs) (hf.g) (hf.p) (List.length_pos_iff.2 hg8) hk eo) Tryd.func71 (by kernel_rfl) rfl rfl rfl (⟨⟨_, rfl, rfl, rfl⟩, ⟨_, rfl, rfl, rfl⟩, trivial⟩) (⟨⟨_, _, rfl, rfl, rfl, rfl, id, rfl⟩, ⟨_, _, rfl, rfl, rfl, rfl, id, rfl⟩, ⟨_, _, rfl, rfl, rfl, rfl, (fun h => by cases h), rfl⟩, ⟨_, _, rfl, rfl, rfl, rfl, (fun h => by cases h), rfl⟩, ⟨_, _, rfl, rfl, rfl, rfl, (fun h => by cases h), rfl⟩, trivial⟩) (⟨⟨500, _, rfl, rfl, rfl, rfl, .inr ⟨rfl, _, rfl, rfl⟩⟩, ⟨1000, _, rfl, rfl, rfl, rfl, .inl rfl⟩, trivial⟩) (⟨(fun _ => ⟨500, _, rfl, rfl⟩), (fun _ => ⟨501, _, rfl, rfl⟩), (fun h => by cases h), (fun h => by cases h), (fun h => by cases h), trivial⟩) rfl) trivial rfl ?_
      refine .q (op_assign rfl) trivial rfl ?_
      refine .nil ?_
      exact ⟨(some (.inr (in_s hf hp hg8 hg15 (nv_t hc19) hk))), Nat.succ_pos _, StLe.mk [(1000, 1008)] rfl rfl ⟨⟨_, rfl, by first | rfl | (simp only [AV.ren]; congr 1; omega), rfl⟩, ⟨_, rfl, by first | rfl | (simp only [AV.ren]; congr 1; omega), rfl⟩, ⟨_, rfl, by first | rfl | (simp only [AV.ren]; congr 1; omega), rfl⟩, ⟨_, rfl, by first | rfl | (simp only [AV.ren]; congr 1; omega), rfl⟩, trivial⟩ ⟨⟨_, _, rfl, rfl, rfl, rfl, id, rfl⟩, ⟨_, _, rfl, rfl, rfl, rfl, id, rfl⟩, ⟨_, _, rfl, rfl, rfl, rfl, id, rfl⟩, ⟨_, _, rfl, rfl, rfl, rfl, id, rfl⟩, ⟨_, _, rfl, rfl, rfl, rfl, id, rfl⟩, trivial⟩⟩
     ·refine .a (op_call (U := [(500, some ⟨.agg [.bool ((readD h s).1).c, .nilsl, .i64 ((((readD h s).1).g : Nat) : Int), .str ((readD h s).1).v, .err 225 (((readD h s).1).e) (offE eo (((readD h s).1).e))], 115, true⟩), (501, none)]) [(500, 500), (501, 501)] [] (read_sn h s (hs) (hf.g) (hf.p) (List.length_pos_iff.2 hg8) (Bool.eq_false_iff.2 hk) eo) Tryd.func71 (by kernel_rfl) rfl rfl rfl (⟨⟨_, rfl, rfl, rfl⟩, ⟨_, rfl, rfl, rfl⟩, trivial⟩) (⟨⟨_, _, rfl, rfl, rfl, rfl, id, rfl⟩, ⟨_, _, rfl, rfl, rfl, rfl, id, rfl⟩, ⟨_, _, rfl, rfl, rfl, rfl, (fun h => by cases h), rfl⟩, ⟨_, _, rfl, rfl, rfl, rfl, (fun h => by cases h), rfl⟩, ⟨_, _, rfl, rfl, rfl, rfl, (fun h => by cases h), rfl⟩, trivial⟩) (⟨⟨500, _, rfl, rfl, rfl, rfl, .inr ⟨rfl, _, rfl, rfl⟩⟩, trivial⟩) (⟨(fun _ => ⟨500, _, rfl, rfl⟩), (fun _ => ⟨501, _, rfl, rfl⟩), (fun h => by cases h), (fun h => by cases h), (fun h => by cases h), trivial⟩) rfl) trivial rfl ?_
      refine .q (op_assign rfl) trivial rfl ?_
      refine .nil ?_
      exact ⟨(some (.inl (in_n hf hg8 hg15 (nv_t hc19) (Bool.eq_false_iff.2 hk)))), Nat.lt_succ_of_lt (readD_lt hg8), StLe.mk [] rfl rfl ⟨⟨_, rfl, by first | rfl | (simp only [AV.ren]; congr 1; omega), rfl⟩, ⟨_, rfl, by first | rfl | (simp only [AV.ren]; congr 1; omega), rfl⟩, ⟨_, rfl, by first | rfl | (simp only [AV.ren]; congr 1; omega), rfl⟩, ⟨_, rfl, by first | rfl | (simp only [AV.ren]; congr 1; omega), rfl⟩, trivial⟩ ⟨⟨_, _, rfl, rfl, rfl, rfl, id, rfl⟩, ⟨_, _, rfl, rfl, rfl, rfl, id, rfl⟩, ⟨_, _, rfl, rfl, rfl, rfl, id, rfl⟩, ⟨_, _, rfl, rfl, rfl, rfl, id, rfl⟩, trivial⟩⟩
    ·skip
     refine .exit ?_
     show Ev _ _ _ _ _
     have hng : goesD h s = false := by first | exact goes_s (bne_eq_false_iff_eq.1 hg8) | exact goes_s hg8 | exact goes_e hg15 | exact goes_v (nv_f hc19)
     exact absurd hgo (by rw [hng]; simp)
   ·first | replace hg15 := of_decide_eq_true hg15 | replace hg15 := of_decide_eq_false hg15 | replace hg15 := eq_of_beq hg15 | replace hg15 := ne_of_beq_false hg15 | simp only [bne_iff_ne, ne_eq] at hg15 | simp only [bne_eq_false_iff_eq] at hg15
    refine .no ⟨_, rfl, rfl⟩ rfl ?_
    refine .no ⟨_, rfl, rfl⟩ rfl ?_
    refine .no ⟨_, rfl, rfl⟩ rfl ?_
    refine .q (op_pick_false rfl rfl rfl) trivial rfl ?_
    refine .nil ?_
    show Ev _ _ _ _ _
    refine .cond_false rfl rfl ?_
    refine .exit ?_
    show Ev _ _ _ _ _
    have hng : goesD h s = false := by first | exact goes_s (bne_eq_false_iff_eq.1 hg8) | exact goes_s hg8 | exact goes_e hg15 | exact goes_v (nv_f hc19)
    exact absurd hgo (by rw [hng]; simp)
  ·first | replace hg8 := of_decide_eq_true hg8 | replace hg8 := of_decide_eq_false hg8 | replace hg8 := eq_of_beq hg8 | replace hg8 := ne_of_beq_false hg8 | simp only [bne_iff_ne, ne_eq] at hg8 | simp only [bne_eq_false_iff_eq] at hg8
   refine .no ⟨_, rfl, rfl⟩ rfl ?_
   refine .no ⟨_, rfl, rfl⟩ rfl ?_
   refine .no ⟨_, rfl, rfl⟩ rfl ?_
   refine .no ⟨_, rfl, rfl⟩ rfl ?_
   refine .no ⟨_, rfl, rfl⟩ rfl ?_
   refine .q (op_pick_false rfl rfl rfl) trivial rfl ?_
   refine .q (op_move rfl) trivial rfl ?_
   refine .no ⟨_, rfl, rfl⟩ rfl ?_
   refine .no ⟨_, rfl, rfl⟩ rfl ?_
   refine .no ⟨_, rfl, rfl⟩ rfl ?_
   refine .q (op_pick_false rfl rfl rfl) trivial rfl ?_
   refine .nil ?_
   show Ev _ _ _ _ _
   refine .cond_false rfl rfl ?_
   refine .exit ?_
   show Ev _ _ _ _ _
   have hng : goesD h s = false := by first | exact goes_s (bne_eq_false_iff_eq.1 hg8) | exact goes_s hg8 | exact goes_e hg15 | exact goes_v (nv_f hc19)
   exact absurd hgo (by rw [hng]; simp)
 ·dsimp only
  refine .seq ?_
  refine .seq ?_
  refine .region ?_
  refine .q (op_move rfl) trivial rfl ?_
  refine .q (op_eqS rfl rfl rfl) trivial rfl ?_
  refine .q (op_move rfl) trivial rfl ?_
  refine .split (fun hg8 => ?_) (fun hg8 => ?_)
  ·first | replace hg8 := of_decide_eq_true hg8 | replace hg8 := of_decide_eq_false hg8 | replace hg8 := eq_of_beq hg8 | replace hg8 := ne_of_beq_false hg8 | simp only [bne_iff_ne, ne_eq] at hg8 | simp only [bne_eq_false_iff_eq] at hg8
   refine .q (op_move rfl) ⟨_, rfl, rfl⟩ rfl ?_
   refine .q (op_nilCheck rfl) ⟨_, rfl, rfl⟩ rfl ?_
   refine .q (op_fieldAddr (m := 0) Tryd.underlying115 rfl (by kernel_rfl) rfl) ⟨_, rfl, rfl⟩ rfl ?_
   refine .as (.ptr 500 4) rfl ?_
   refine .q (op_load Tryd.underlying26 rfl rfl rfl rfl (by show 4 < 5; decide)) ⟨_, rfl, rfl⟩ rfl ?_
   refine .q (op_eqErrNil (e := i.k.e) Tryd.underlying26 rfl rfl) ⟨_, rfl, rfl⟩ rfl ?_
   refine .q (op_pick_true rfl rfl rfl) trivial rfl ?_
   refine .q (op_move rfl) trivial rfl ?_
   refine .split (fun hg15 => ?_) (fun hg15 => ?_)
   ·first | replace hg15 := of_decide_eq_true hg15 | replace hg15 := of_decide_eq_false hg15 | replace hg15 := eq_of_beq hg15 | replace hg15 := ne_of_beq_false hg15 | simp only [bne_iff_ne, ne_eq] at hg15 | simp only [bne_eq_false_iff_eq] at hg15
    refine .q (op_move rfl) ⟨_, rfl, rfl⟩ rfl ?_
    refine .q (op_call (U := []) [(500, 500)] [] (done_n i.k eo) Tryd.func30 (by kernel_rfl) rfl rfl rfl (⟨⟨_, rfl, rfl, rfl⟩, trivial⟩) (⟨⟨_, _, rfl, rfl, rfl, rfl, (fun h => by cases h), rfl⟩, trivial⟩) (trivial) (⟨(fun h => by cases h), trivial⟩) rfl) ⟨_, rfl, rfl⟩ rfl ?_
    refine .q (op_notB rfl) ⟨_, rfl, rfl⟩ rfl ?_
    refine .q (op_pick_true rfl rfl rfl) trivial rfl ?_
    refine .nil ?_
    show Ev _ _ _ _ _
    refine .cond rfl (fun hc19 => ?_) (fun hc19 => ?_)
    ·skip
     refine .skip ?_
     show Ev _ _ _ _ _
     refine .block ?_
     refine .region ?_
     refine .q (op_move rfl) trivial rfl ?_
     refine .q (op_move rfl) trivial rfl ?_
     refine dite (keepsD i.k i.q = true) (fun hk => ?_) (fun hk => ?_)
     ·refine .a (op_call (U := [(500, some ⟨.agg [.bool ((readD i.k i.q).1).c, .sl 1008 0 (readD i.k i.q).1.p.length 1, .i64 ((((readD i.k i.q).1).g : Nat) : Int), .str ((readD i.k i.q).1).v, .err 225 (((readD i.k i.q).1).e) (offE eo (((readD i.k i.q).1).e))], 115, true⟩), (1008, some ⟨.aggB (readD i.k i.q).1.p, 5, true⟩)]) [(500, 500)] [(1008, 1000)] (read_ns i.k i.q (Nat.le_trans i.le hs) (i.fine.g) (i.fine.p) (List.length_pos_iff.2 hg8) (i.p) hk eo) Tryd.func71 (by kernel_rfl) rfl rfl rfl (⟨⟨_, rfl, rfl, rfl⟩, ⟨_, rfl, rfl, rfl⟩, trivial⟩) (⟨⟨_, _, rfl, rfl, rfl, rfl, id, rfl⟩, ⟨_, _, rfl, rfl, rfl, rfl, (fun h => by cases h), rfl⟩, ⟨_, _, rfl, rfl, rfl, rfl, (fun h => by cases h), rfl⟩, ⟨_, _, rfl, rfl, rfl, rfl, (fun h => by cases h), rfl⟩, trivial⟩) (⟨⟨500, _, rfl, rfl, rfl, rfl, .inr ⟨rfl, _, rfl, rfl⟩⟩, ⟨1000, _, rfl, rfl, rfl, rfl, .inl rfl⟩, trivial⟩) (⟨(fun _ => ⟨500, _, rfl, rfl⟩), (fun h => by cases h), (fun h => by cases h), (fun h => by cases h), trivial⟩) rfl) trivial rfl ?_
      refine .q (op_assign rfl) trivial rfl ?_
      refine .nil ?_
      exact ⟨(some (.inr (i.ns hg8 hg15 (nv_t hc19) hk))), List.length_pos_iff.2 hg8, StLe.mk [(1000, 1008)] rfl rfl ⟨⟨_, rfl, by first | rfl | (simp only [AV.ren]; congr 1; omega), rfl⟩, ⟨_, rfl, by first | rfl | (simp only [AV.ren]; congr 1; omega), rfl⟩, ⟨_, rfl, by first | rfl | (simp only [AV.ren]; congr 1; omega), rfl⟩, ⟨_, rfl, by first | rfl | (simp only [AV.ren]; congr 1; omega), rfl⟩, trivial⟩ ⟨⟨_, _, rfl, rfl, rfl, rfl, id, rfl⟩, ⟨_, _, rfl, rfl, rfl, rfl, id, rfl⟩, ⟨_, _, rfl, rfl, rfl, rfl, id, rfl⟩, ⟨_, _, rfl, rfl, rfl, rfl, id, rfl⟩, ⟨_, _, rfl, rfl, rfl, rfl, id, rfl⟩, trivial⟩⟩
     ·refine .a (op_call (U := [(500, some ⟨.agg [.bool ((readD i.k i.q).1).c, .nilsl, .i64 ((((readD i.k i.q).1).g : Nat) : Int), .str ((readD i.k i.q).1).v, .err 225 (((readD i.k i.q).1).e) (offE eo (((readD i.k i.q).1).e))], 115, true⟩)]) [(500, 500)] [] (read_nn i.k i.q (Nat.le_trans i.le hs) (i.fine.g) (i.fine.p) (List.length_pos_iff.2 hg8) (i.p) (Bool.eq_false_iff.2 hk) eo) Tryd.func71 (by kernel_rfl) rfl rfl rfl (⟨⟨_, rfl, rfl, rfl⟩, ⟨_, rfl, rfl, rfl⟩, trivial⟩) (⟨⟨_, _, rfl, rfl, rfl, rfl, id, rfl⟩, ⟨_, _, rfl, rfl, rfl, rfl, (fun h => by cases h), rfl⟩, ⟨_, _, rfl, rfl, rfl, rfl, (fun h => by cases h), rfl⟩, ⟨_, _, rfl, rfl, rfl, rfl, (fun h => by cases h), rfl⟩, trivial⟩) (⟨⟨500, _, rfl, rfl, rfl, rfl, .inr ⟨rfl, _, rfl, rfl⟩⟩, trivial⟩) (⟨(fun _ => ⟨500, _, rfl, rfl⟩), (fun h => by cases h), (fun h => by cases h), (fun h => by cases h), trivial⟩) rfl) trivial rfl ?_
      refine .q (op_assign rfl) trivial rfl ?_
      refine .nil ?_
      exact ⟨(some (.inl (i.nn hg8 hg15 (nv_t hc19) (Bool.eq_false_iff.2 hk)))), readD_lt hg8, StLe.mk [] rfl rfl ⟨⟨_, rfl, by first | rfl | (simp only [AV.ren]; congr 1; omega), rfl⟩, ⟨_, rfl, by first | rfl | (simp only [AV.ren]; congr 1; omega), rfl⟩, ⟨_, rfl, by first | rfl | (simp only [AV.ren]; congr 1; omega), rfl⟩, ⟨_, rfl, by first | rfl | (simp only [AV.ren]; congr 1; omega), rfl⟩, trivial⟩ ⟨⟨_, _, rfl, rfl, rfl, rfl, id, rfl⟩, ⟨_, _, rfl, rfl, rfl, rfl, id, rfl⟩, ⟨_, _, rfl, rfl, rfl, rfl, id, rfl⟩, ⟨_, _, rfl, rfl, rfl, rfl, id, rfl⟩, trivial⟩⟩
    ·skip
     refine .exit ?_
     show Ev _ _ _ _ _
     have hng : goesD i.k i.q = false := by first | exact goes_s (bne_eq_false_iff_eq.1 hg8) | exact goes_s hg8 | exact goes_e hg15 | exact goes_v (nv_f hc19)
     have hF := i.f.trans (feedD_end hng)
     refine .seq ?_
     refine .seq ?_
     refine .region ?_
     refine .q (op_move rfl) trivial rfl ?_
     refine .q (op_nilCheck rfl) trivial rfl ?_
     refine .q (op_fieldAddr (m := 0) Tryd.underlying115 rfl (by kernel_rfl) rfl) trivial rfl ?_
     refine .as (.ptr 500 4) rfl ?_
     refine .q (op_load Tryd.underlying26 rfl rfl rfl rfl (by show 4 < 5; decide)) trivial rfl ?_
     refine .q (op_eqErrNil (e := i.k.e) Tryd.underlying26 rfl rfl) trivial rfl ?_
     refine .nil ?_
     show Ev _ _ _ _ _
     refine .cond rfl (fun hc27 => ?_) (fun hc27 => ?_)
     ·first | replace hc27 := of_decide_eq_true hc27 | replace hc27 := of_decide_eq_false hc27 | replace hc27 := eq_of_beq hc27 | replace hc27 := ne_of_beq_false hc27 | simp only [bne_iff_ne, ne_eq] at hc27 | simp only [bne_eq_false_iff_eq] at hc27
      refine .seq ?_
      refine .drawn [[], [0], [0, 1], [0, 1, 2], [], [0, 1, 2, 3, 4]] [3] [] (by kernel_rfl) (by kernel_rfl) rfl ?_
      show DK _ [0, 1, 2, 3, 4, 5] _ _ _
      refine .q rfl (op_move rfl) trivial ?_
      refine .q rfl (op_nilCheck rfl) trivial ?_
      refine .q rfl (op_fieldAddr (m := 0) Tryd.underlying115 rfl (by kernel_rfl) rfl) trivial ?_
      refine .as (.ptr 500 4) rfl ?_
      refine .q rfl (op_load Tryd.underlying26 rfl rfl rfl rfl (by show 4 < 5; decide)) trivial ?_
      refine .q rfl (op_assign rfl) trivial ?_
      refine .q rfl (op_assign rfl) trivial ?_
      refine .nil ?_
      show Ev _ _ _ _ _
      refine .ret ?_
      show RetOk _ _ _ _ _ _ _
      first
       | exact ret2v rfl (.inl rfl) rfl rfl (congrArg AV.str (by unfold feedR; rw [hF]; first | (exact (if_pos hc27).symm) | (exact (if_neg hc27).symm))) (congrArg (fun z : HD => AV.err 225 (z.e) (offE eo (z.e))) (congrArg Prod.fst hF).symm) ⟨congrArg (fun z : HD => some (ABlk.mk (.agg [.bool (z).c, .nilsl, .i64 (((z).g : Nat) : Int), .str (z).v, .err 225 ((z).e) (offE eo ((z).e))]) 115 true)) (congrArg Prod.fst hF).symm, trivial⟩
       | exact ret2v rfl (.inl rfl) rfl rfl (congrArg AV.str (by unfold feedR; rw [hF]; first | (exact (if_pos hc27).symm) | (exact (if_neg hc27).symm))) (by rw [hF]; show AV.err 225 (0) (offE eo (0)) = AV.err 225 (i.k.e) (offE eo (i.k.e)); rw [hc27]) ⟨congrArg (fun z : HD => some (ABlk.mk (.agg [.bool (z).c, .nilsl, .i64 (((z).g : Nat) : Int), .str (z).v, .err 225 ((z).e) (offE eo ((z).e))]) 115 true)) (congrArg Prod.fst hF).symm, trivial⟩
     ·first | replace hc27 := of_decide_eq_true hc27 | replace hc27 := of_decide_eq_false hc27 | replace hc27 := eq_of_beq hc27 | replace hc27 := ne_of_beq_false hc27 | simp only [bne_iff_ne, ne_eq] at hc27 | simp only [bne_eq_false_iff_eq] at hc27
      refine .skip ?_
      show Ev _ _ _ _ _
      refine .seq ?_
      refine .region ?_
      refine .q (op_move rfl) trivial rfl ?_
      refine .q (op_assign rfl) trivial rfl ?_
      refine .q (op_assign rfl) trivial rfl ?_
      refine .asR (.err 225 (0) (offE eo (0))) (nil_err _ _) ?_
      refine .nil ?_
      show Ev _ _ _ _ _
      refine .ret ?_
      show RetOk _ _ _ _ _ _ _
      first
       | exact ret2v rfl (.inl rfl) rfl rfl (congrArg AV.str (by unfold feedR; rw [hF]; first | (exact (if_pos hc27).symm) | (exact (if_neg hc27).symm))) (congrArg (fun z : HD => AV.err 225 (z.e) (offE eo (z.e))) (congrArg Prod.fst hF).symm) ⟨congrArg (fun z : HD => some (ABlk.mk (.agg [.bool (z).c, .nilsl, .i64 (((z).g : Nat) : Int), .str (z).v, .err 225 ((z).e) (offE eo ((z).e))]) 115 true)) (congrArg Prod.fst hF).symm, trivial⟩
       | exact ret2v rfl (.inl rfl) rfl rfl (congrArg AV.str (by unfold feedR; rw [hF]; first | (exact (if_pos hc27).symm) | (exact (if_neg hc27).symm))) (by rw [hF]; show AV.err 225 (0) (offE eo (0)) = AV.err 225 (i.k.e) (offE eo (i.k.e)); rw [hc27]) ⟨congrArg (fun z : HD => some (ABlk.mk (.agg [.bool (z).c, .nilsl, .i64 (((z).g : Nat) : Int), .str (z).v, .err 225 ((z).e) (offE eo ((z).e))]) 115 true)) (congrArg Prod.fst hF).symm, trivial⟩
   ·first | replace hg15 := of_decide_eq_true hg15 | replace hg15 := of_decide_eq_false hg15 | replace hg15 := eq_of_beq hg15 | replace hg15 := ne_of_beq_false hg15 | simp only [bne_iff_ne, ne_eq] at hg15 | simp only [bne_eq_false_iff_eq] at hg15
    refine .no ⟨_, rfl, rfl⟩ rfl ?_
    refine .no ⟨_, rfl, rfl⟩ rfl ?_
    refine .no ⟨_, rfl, rfl⟩ rfl ?_
    refine .q (op_pick_false rfl rfl rfl) trivial rfl ?_
    refine .nil ?_
    show Ev _ _ _ _ _
    refine .cond_false rfl rfl ?_
    refine .exit ?_
    show Ev _ _ _ _ _
    have hng : goesD i.k i.q = false := by first | exact goes_s (bne_eq_false_iff_eq.1 hg8) | exact goes_s hg8 | exact goes_e hg15 | exact goes_v (nv_f hc19)
    have hF := i.f.trans (feedD_end hng)
    refine .seq ?_
    refine .seq ?_
    refine .region ?_
    refine .q (op_move rfl) trivial rfl ?_
    refine .q (op_nilCheck rfl) trivial rfl ?_
    refine .q (op_fieldAddr (m := 0) Tryd.underlying115 rfl (by kernel_rfl) rfl) trivial rfl ?_
    refine .as (.ptr 500 4) rfl ?_
    refine .q (op_load Tryd.underlying26 rfl rfl rfl rfl (by show 4 < 5; decide)) trivial rfl ?_
    refine .q (op_eqErrNil (e := i.k.e) Tryd.underlying26 rfl rfl) trivial rfl ?_
    refine .nil ?_
    show Ev _ _ _ _ _
    refine .cond rfl (fun hc27 => ?_) (fun hc27 => ?_)
    ·first | replace hc27 := of_decide_eq_true hc27 | replace hc27 := of_decide_eq_false hc27 | replace hc27 := eq_of_beq hc27 | replace hc27 := ne_of_beq_false hc27 | simp only [bne_iff_ne, ne_eq] at hc27 | simp only [bne_eq_false_iff_eq] at hc27
     refine .seq ?_
     refine .drawn [[], [0], [0, 1], [0, 1, 2], [], [0, 1, 2, 3, 4]] [3] [] (by kernel_rfl) (by kernel_rfl) rfl ?_
     show DK _ [0, 1, 2, 3, 4, 5] _ _ _
     refine .q rfl (op_move rfl) trivial ?_
     refine .q rfl (op_nilCheck rfl) trivial ?_
     refine .q rfl (op_fieldAddr (m := 0) Tryd.underlying115 rfl (by kernel_rfl) rfl) trivial ?_
     refine .as (.ptr 500 4) rfl ?_
     refine .q rfl (op_load Tryd.underlying26 rfl rfl rfl rfl (by show 4 < 5; decide)) trivial ?_
     refine .q rfl (op_assign rfl) trivial ?_
     refine .q rfl (op_assign rfl) trivial ?_
     refine .nil ?_
     show Ev _ _ _ _ _
     refine .ret ?_
     show RetOk _ _ _ _ _ _ _
     first
      | exact ret2v rfl (.inl rfl) rfl rfl (congrArg AV.str (by unfold feedR; rw [hF]; first | (exact (if_pos hc27).symm) | (exact (if_neg hc27).symm))) (congrArg (fun z : HD => AV.err 225 (z.e) (offE eo (z.e))) (congrArg Prod.fst hF).symm) ⟨congrArg (fun z : HD => some (ABlk.mk (.agg [.bool (z).c, .nilsl, .i64 (((z).g : Nat) : Int), .str (z).v, .err 225 ((z).e) (offE eo ((z).e))]) 115 true)) (congrArg Prod.fst hF).symm, trivial⟩
      | exact ret2v rfl (.inl rfl) rfl rfl (congrArg AV.str (by unfold feedR; rw [hF]; first | (exact (if_pos hc27).symm) | (exact (if_neg hc27).symm))) (by rw [hF]; show AV.err 225 (0) (offE eo (0)) = AV.err 225 (i.k.e) (offE eo (i.k.e)); rw [hc27]) ⟨congrArg (fun z : HD => some (ABlk.mk (.agg [.bool (z).c, .nilsl, .i64 (((z).g : Nat) : Int), .str (z).v, .err 225 ((z).e) (offE eo ((z).e))]) 115 true)) (congrArg Prod.fst hF).symm, trivial⟩
    ·first | replace hc27 := of_decide_eq_true hc27 | replace hc27 := of_decide_eq_false hc27 | replace hc27 := eq_of_beq hc27 | replace hc27 := ne_of_beq_false hc27 | simp only [bne_iff_ne, ne_eq] at hc27 | simp only [bne_eq_false_iff_eq] at hc27
     refine .skip ?_
     show Ev _ _ _ _ _
     refine .seq ?_
     refine .region ?_
     refine .q (op_move rfl) trivial rfl ?_
     refine .q (op_assign rfl) trivial rfl ?_
     refine .q (op_assign rfl) trivial rfl ?_
     refine .asR (.err 225 (0) (offE eo (0))) (nil_err _ _) ?_
     refine .nil ?_
     show Ev _ _ _ _ _
     refine .ret ?_
     show RetOk _ _ _ _ _ _ _
     first
      | exact ret2v rfl (.inl rfl) rfl rfl (congrArg AV.str (by unfold feedR; rw [hF]; first | (exact (if_pos hc27).symm) | (exact (if_neg hc27).symm))) (congrArg (fun z : HD => AV.err 225 (z.e) (offE eo (z.e))) (congrArg Prod.fst hF).symm) ⟨congrArg (fun z : HD => some (ABlk.mk (.agg [.bool (z).c, .nilsl, .i64 (((z).g : Nat) : Int), .str (z).v, .err 225 ((z).e) (offE eo ((z).e))]) 115 true)) (congrArg Prod.fst hF).symm, trivial⟩
      | exact ret2v rfl (.inl rfl) rfl rfl (congrArg AV.str (by unfold feedR; rw [hF]; first | (exact (if_pos hc27).symm) | (exact (if_neg hc27).symm))) (by rw [hF]; show AV.err 225 (0) (offE eo (0)) = AV.err 225 (i.k.e) (offE eo (i.k.e)); rw [hc27]) ⟨congrArg (fun z : HD => some (ABlk.mk (.agg [.bool (z).c, .nilsl, .i64 (((z).g : Nat) : Int), .str (z).v, .err 225 ((z).e) (offE eo ((z).e))]) 115 true)) (congrArg Prod.fst hF).symm, trivial⟩
  ·first | replace hg8 := of_decide_eq_true hg8 | replace hg8 := of_decide_eq_false hg8 | replace hg8 := eq_of_beq hg8 | replace hg8 := ne_of_beq_false hg8 | simp only [bne_iff_ne, ne_eq] at hg8 | simp only [bne_eq_false_iff_eq] at hg8
   refine .no ⟨_, rfl, rfl⟩ rfl ?_
   refine .no ⟨_, rfl, rfl⟩ rfl ?_
   refine .no ⟨_, rfl, rfl⟩ rfl ?_
   refine .no ⟨_, rfl, rfl⟩ rfl ?_
   refine .no ⟨_, rfl, rfl⟩ rfl ?_
   refine .q (op_pick_false rfl rfl rfl) trivial rfl ?_
   refine .q (op_move rfl) trivial rfl ?_
   refine .no ⟨_, rfl, rfl⟩ rfl ?_
   refine .no ⟨_, rfl, rfl⟩ rfl ?_
   refine .no ⟨_, rfl, rfl⟩ rfl ?_
   refine .q (op_pick_false rfl rfl rfl) trivial rfl ?_
   refine .nil ?_
   show Ev _ _ _ _ _
   refine .cond_false rfl rfl ?_
   refine .exit ?_
   show Ev _ _ _ _ _
   have hng : goesD i.k i.q = false := by first | exact goes_s (bne_eq_false_iff_eq.1 hg8) | exact goes_s hg8 | exact goes_e hg15 | exact goes_v (nv_f hc19)
   have hF := i.f.trans (feedD_end hng)
   refine .seq ?_
   refine .seq ?_
   refine .region ?_
   refine .q (op_move rfl) trivial rfl ?_
   refine .q (op_nilCheck rfl) trivial rfl ?_
   refine .q (op_fieldAddr (m := 0) Tryd.underlying115 rfl (by kernel_rfl) rfl) trivial rfl ?_
   refine .as (.ptr 500 4) rfl ?_
   refine .q (op_load Tryd.underlying26 rfl rfl rfl rfl (by show 4 < 5; decide)) trivial rfl ?_
   refine .q (op_eqErrNil (e := i.k.e) Tryd.underlying26 rfl rfl) trivial rfl ?_
   refine .nil ?_
   show Ev _ _ _ _ _
   refine .cond rfl (fun hc27 => ?_) (fun hc27 => ?_)
   ·first | replace hc27 := of_decide_eq_true hc27 | replace hc27 := of_decide_eq_false hc27 | replace hc27 := eq_of_beq hc27 | replace hc27 := ne_of_beq_false hc27 | simp only [bne_iff_ne, ne_eq] at hc27 | simp only [bne_eq_false_iff_eq] at hc27
    refine .seq ?_
    refine .drawn [[], [0], [0, 1], [0, 1, 2], [], [0, 1, 2, 3, 4]] [3] [] (by kernel_rfl) (by kernel_rfl) rfl ?_
    show DK _ [0, 1, 2, 3, 4, 5] _ _ _
    refine .q rfl (op_move rfl) trivial ?_
    refine .q rfl (op_nilCheck rfl) trivial ?_
    refine .q rfl (op_fieldAddr (m := 0) Tryd.underlying115 rfl (by kernel_rfl) rfl) trivial ?_
    refine .as (.ptr 500 4) rfl ?_
    refine .q rfl (op_load Tryd.underlying26 rfl rfl rfl rfl (by show 4 < 5; decide)) trivial ?_
    refine .q rfl (op_assign rfl) trivial ?_
    refine .q rfl (op_assign rfl) trivial ?_
    refine .nil ?_
    show Ev _ _ _ _ _
    refine .ret ?_
    show RetOk _ _ _ _ _ _ _
    first
     | exact ret2v rfl (.inl rfl) rfl rfl (congrArg AV.str (by unfold feedR; rw [hF]; first | (exact (if_pos hc27).symm) | (exact (if_neg hc27).symm))) (congrArg (fun z : HD => AV.err 225 (z.e) (offE eo (z.e))) (congrArg Prod.fst hF).symm) ⟨congrArg (fun z : HD => some (ABlk.mk (.agg [.bool (z).c, .nilsl, .i64 (((z).g : Nat) : Int), .str (z).v, .err 225 ((z).e) (offE eo ((z).e))]) 115 true)) (congrArg Prod.fst hF).symm, trivial⟩
     | exact ret2v rfl (.inl rfl) rfl rfl (congrArg AV.str (by unfold feedR; rw [hF]; first | (exact (if_pos hc27).symm) | (exact (if_neg hc27).symm))) (by rw [hF]; show AV.err 225 (0) (offE eo (0)) = AV.err 225 (i.k.e) (offE eo (i.k.e)); rw [hc27]) ⟨congrArg (fun z : HD => some (ABlk.mk (.agg [.bool (z).c, .nilsl, .i64 (((z).g : Nat) : Int), .str (z).v, .err 225 ((z).e) (offE eo ((z).e))]) 115 true)) (congrArg Prod.fst hF).symm, trivial⟩
   ·first | replace hc27 := of_decide_eq_true hc27 | replace hc27 := of_decide_eq_false hc27 | replace hc27 := eq_of_beq hc27 | replace hc27 := ne_of_beq_false hc27 | simp only [bne_iff_ne, ne_eq] at hc27 | simp only [bne_eq_false_iff_eq] at hc27
    refine .skip ?_
    show Ev _ _ _ _ _
    refine .seq ?_
    refine .region ?_
    refine .q (op_move rfl) trivial rfl ?_
    refine .q (op_assign rfl) trivial rfl ?_
    refine .q (op_assign rfl) trivial rfl ?_
    refine .asR (.err 225 (0) (offE eo (0))) (nil_err _ _) ?_
    refine .nil ?_
    show Ev _ _ _ _ _
    refine .ret ?_
    show RetOk _ _ _ _ _ _ _
    first
     | exact ret2v rfl (.inl rfl) rfl rfl (congrArg AV.str (by unfold feedR; rw [hF]; first | (exact (if_pos hc27).symm) | (exact (if_neg hc27).symm))) (congrArg (fun z : HD => AV.err 225 (z.e) (offE eo (z.e))) (congrArg Prod.fst hF).symm) ⟨congrArg (fun z : HD => some (ABlk.mk (.agg [.bool (z).c, .nilsl, .i64 (((z).g : Nat) : Int), .str (z).v, .err 225 ((z).e) (offE eo ((z).e))]) 115 true)) (congrArg Prod.fst hF).symm, trivial⟩
     | exact ret2v rfl (.inl rfl) rfl rfl (congrArg AV.str (by unfold feedR; rw [hF]; first | (exact (if_pos hc27).symm) | (exact (if_neg hc27).symm))) (by rw [hF]; show AV.err 225 (0) (offE eo (0)) = AV.err 225 (i.k.e) (offE eo (i.k.e)); rw [hc27]) ⟨congrArg (fun z : HD => some (ABlk.mk (.agg [.bool (z).c, .nilsl, .i64 (((z).g : Nat) : Int), .str (z).v, .err 225 ((z).e) (offE eo ((z).e))]) 115 true)) (congrArg Prod.fst hF).symm, trivial⟩
 ·dsimp only
  refine .seq ?_
  refine .seq ?_
  refine .region ?_
  refine .q (op_move rfl) trivial rfl ?_
  refine .q (op_eqS rfl rfl rfl) trivial rfl ?_
  refine .q (op_move rfl) trivial rfl ?_
  refine .know (b' := false) (by rw [i.z]; rfl) ?_
  refine .no ⟨_, rfl, rfl⟩ rfl ?_
  refine .no ⟨_, rfl, rfl⟩ rfl ?_
  refine .no ⟨_, rfl, rfl⟩ rfl ?_
  refine .no ⟨_, rfl, rfl⟩ rfl ?_
  refine .no ⟨_, rfl, rfl⟩ rfl ?_
  refine .q (op_pick_false rfl rfl rfl) trivial rfl ?_
  refine .q (op_move rfl) trivial rfl ?_
  refine .no ⟨_, rfl, rfl⟩ rfl ?_
  refine .no ⟨_, rfl, rfl⟩ rfl ?_
  refine .no ⟨_, rfl, rfl⟩ rfl ?_
  refine .q (op_pick_false rfl rfl rfl) trivial rfl ?_
  refine .nil ?_
  show Ev _ _ _ _ _
  refine .cond_false rfl rfl ?_
  refine .exit ?_
  show Ev _ _ _ _ _
  have hng : goesD i.k i.q = false := by first | exact goes_s (bne_eq_false_iff_eq.1 hg8) | exact goes_s hg8 | exact goes_e hg15 | exact goes_v (nv_f hc19) | exact goes_s i.z
  have hF := i.f.trans (feedD_end hng)
  exact absurd hfin (by rw [hF]; exact i.p)
set_option maxRecDepth 100000 in
theorem feed_ss (h : HD) (s : List UInt8) (hf : h.fine) (hp : h.p ≠ []) (hs : s.length ≤ 9000000) (hgo : goesD h s = true) (hfin : (feedD h s).1.p ≠ []) (eo : Nat → Nat × Nat) : Meets Tryd.prog 31 [.ptr 500 0, .str s] [(500, some ⟨.agg [.bool (h).c, .sl 501 0 h.p.length 1, .i64 (((h).g : Nat) : Int), .str (h).v, .err 225 ((h).e) (offE eo ((h).e))], 115, true⟩), (501, some ⟨.aggB (h.p), 5, true⟩), (0, some ⟨.agg [.err 225 (3) (offE eo (3))], errT, false⟩), (4, some ⟨.agg [.err 225 (4) (offE eo (4))], errT, false⟩), (11, some ⟨.agg [.err 225 (12) (offE eo (12))], errT, false⟩)] (.tup [.str (feedR h s), .err 225 ((feedD h s).1.e) (offE eo ((feedD h s).1.e))]) [(500, some ⟨.agg [.bool ((feedD h s).1).c, .sl 1000 0 (feedD h s).1.p.length 1, .i64 ((((feedD h s).1).g : Nat) : Int), .str ((feedD h s).1).v, .err 225 (((feedD h s).1).e) (offE eo (((feedD h s).1).e))], 115, true⟩), (1000, some ⟨.aggB ((feedD h s).1.p), 5, true⟩)] := by
 refine meets_of_ev (nt := 33) Tryd.func31 rfl rfl (Nat.le_of_ble_eq_true rfl) ?_
 refine .seq ?_
 refine .region ?_
 refine .q (op_assign rfl) trivial rfl ?_
 refine .q (op_assign rfl) trivial rfl ?_
 refine .asR (.err 225 (0) (offE eo (0))) (nil_err _ _) ?_
 refine .nil ?_
 show Ev _ _ _ _ _
 refine .seq ?_
 refine .block ?_
 refine Ev.loop (ι := Option (NI h s ⊕ SI h s)) (fun q => match q with | none => ⟨[(0, .ptr 500 0), (1, .str s), (4, .str []), (5, .err 225 (0) (offE eo (0)))], [(500, some ⟨.agg [.bool (h).c, .sl 501 0 h.p.length 1, .i64 (((h).g : Nat) : Int), .str (h).v, .err 225 ((h).e) (offE eo ((h).e))], 115, true⟩), (501, some ⟨.aggB (h.p), 5, true⟩), (0, some ⟨.agg [.err 225 (3) (offE eo (3))], errT, false⟩), (4, some ⟨.agg [.err 225 (4) (offE eo (4))], errT, false⟩), (11, some ⟨.agg [.err 225 (12) (offE eo (12))], errT, false⟩)], 1008⟩ | some (.inl i) => ⟨[(0, .ptr 500 0), (1, .str i.q), (4, .str []), (5, .err 225 (0) (offE eo (0)))], [(500, some ⟨.agg [.bool (i.k).c, .nilsl, .i64 (((i.k).g : Nat) : Int), .str (i.k).v, .err 225 ((i.k).e) (offE eo ((i.k).e))], 115, true⟩), (0, some ⟨.agg [.err 225 (3) (offE eo (3))], errT, false⟩), (4, some ⟨.agg [.err 225 (4) (offE eo (4))], errT, false⟩), (11, some ⟨.agg [.err 225 (12) (offE eo (12))], errT, false⟩)], 1008⟩ | some (.inr i) => ⟨[(0, .ptr 500 0), (1, .str i.q), (4, .str []), (5, .err 225 (0) (offE eo (0)))], [(500, some ⟨.agg [.bool (i.k).c, .sl 1000 0 i.k.p.length 1, .i64 (((i.k).g : Nat) : Int), .str (i.k).v, .err 225 ((i.k).e) (offE eo ((i.k).e))], 115, true⟩), (1000, some ⟨.aggB (i.k.p), 5, true⟩), (0, some ⟨.agg [.err 225 (3) (offE eo (3))], errT, false⟩), (4, some ⟨.agg [.err 225 (4) (offE eo (4))], errT, false⟩), (11, some ⟨.agg [.err 225 (12) (offE eo (12))], errT, false⟩)], 1008⟩) (fun q => match q with | none => s.length + 1 | some (.inl i) => i.q.length | some (.inr i) => 0) none (StLe.mk [] rfl rfl ⟨⟨_, rfl, by first | rfl | (simp only [AV.ren]; congr 1; omega), rfl⟩, ⟨_, rfl, by first | rfl | (simp only [AV.ren]; congr 1; omega), rfl⟩, ⟨_, rfl, by first | rfl | (simp only [AV.ren]; congr 1; omega), rfl⟩, ⟨_, rfl, by first | rfl | (simp only [AV.ren]; congr 1; omega), rfl⟩, trivial⟩ ⟨⟨_, _, rfl, rfl, rfl, rfl, id, rfl⟩, ⟨_, _, rfl, rfl, rfl, rfl, id, rfl⟩, ⟨_, _, rfl, rfl, rfl, rfl, id, rfl⟩, ⟨_, _, rfl, rfl, rfl, rfl, id, rfl⟩, ⟨_, _, rfl, rfl, rfl, rfl, id, rfl⟩, trivial⟩) ?_
 rintro (_ | (i | i))
 ·dsimp only
  refine .seq ?_
  refine .seq ?_
  refine .region ?_
  refine .q (op_move rfl) trivial rfl ?_
  refine .q (op_eqS rfl rfl rfl) trivial rfl ?_
  refine .q (op_move rfl) trivial rfl ?_
  refine .split (fun hg8 => ?_) (fun hg8 => ?_)
  ·first | replace hg8 := of_decide_eq_true hg8 | replace hg8 := of_decide_eq_false hg8 | replace hg8 := eq_of_beq hg8 | replace hg8 := ne_of_beq_false hg8 | simp only [bne_iff_ne, ne_eq] at hg8 | simp only [bne_eq_false_iff_eq] at hg8
   refine .q (op_move rfl) ⟨_, rfl, rfl⟩ rfl ?_
   refine .q (op_nilCheck rfl) ⟨_, rfl, rfl⟩ rfl ?_
   refine .q (op_fieldAddr (m := 0) Tryd.underlying115 rfl (by kernel_rfl) rfl) ⟨_, rfl, rfl⟩ rfl ?_
   refine .as (.ptr 500 4) rfl ?_
   refine .q (op_load Tryd.underlying26 rfl rfl rfl rfl (by show 4 < 5; decide)) ⟨_, rfl, rfl⟩ rfl ?_
   refine .q (op_eqErrNil (e := h.e) Tryd.underlying26 rfl rfl) ⟨_, rfl, rfl⟩ rfl ?_
   refine .q (op_pick_true rfl rfl rfl) trivial rfl ?_
   refine .q (op_move rfl) trivial rfl ?_
   refine .split (fun hg15 => ?_) (fun hg15 => ?_)
   ·first | replace hg15 := of_decide_eq_true hg15 | replace hg15 := of_decide_eq_false hg15 | replace hg15 := eq_of_beq hg15 | replace hg15 := ne_of_beq_false hg15 | simp only [bne_iff_ne, ne_eq] at hg15 | simp only [bne_eq_false_iff_eq] at hg15
    refine .q (op_move rfl) ⟨_, rfl, rfl⟩ rfl ?_
    refine .q (op_call (U := []) [(500, 500), (501, 501)] [] (done_s h eo) Tryd.func30 (by kernel_rfl) rfl rfl rfl (⟨⟨_, rfl, rfl, rfl⟩, trivial⟩) (⟨⟨_, _, rfl, rfl, rfl, rfl, (fun h => by cases h), rfl⟩, trivial⟩) (trivial) (⟨(fun h => by cases h), trivial⟩) rfl) ⟨_, rfl, rfl⟩ rfl ?_
    refine .q (op_notB rfl) ⟨_, rfl, rfl⟩ rfl ?_
    refine .q (op_pick_true rfl rfl rfl) trivial rfl ?_
    refine .nil ?_
    show Ev _ _ _ _ _
    refine .cond rfl (fun hc19 => ?_) (fun hc19 => ?_)
    ·skip
     refine .skip ?_
     show Ev _ _ _ _ _
     refine .block ?_
     refine .region ?_
     refine .q (op_move rfl) trivial rfl ?_
     refine .q (op_move rfl) trivial rfl ?_
     refine dite (keepsD h s = true) (fun hk => ?_) (fun hk => ?_)
     ·refine .a (op_call (U := [(500, some ⟨.agg [.bool ((readD h s).1).c, .sl 1008 0 (readD h s).1.p.length 1, .i64 ((((readD h s).1).g : Nat) : Int), .str ((readD h s).1).v, .err 225 (((readD h s).1).e) (offE eo (((readD h s).1).e))], 115, true⟩), (1008, some ⟨.aggB (readD h s).1.p, 5, true⟩), (501, none)]) [(500, 500), (501, 501)] [(1008, 1000)] (read_ss h s (hs) (hf.g) (hf.p) (List.length_pos_iff.2 hg8) hk eo) Tryd.func71 (by kernel_rfl) rfl rfl rfl (⟨⟨_, rfl, rfl, rfl⟩, ⟨_, rfl, rfl, rfl⟩, trivial⟩) (⟨⟨_, _, rfl, rfl, rfl, rfl, id, rfl⟩, ⟨_, _, rfl, rfl, rfl, rfl, id, rfl⟩, ⟨_, _, rfl, rfl, rfl, rfl, (fun h => by cases h), rfl⟩, ⟨_, _, rfl, rfl, rfl, rfl, (fun h => by cases h), rfl⟩, ⟨_, _, rfl, rfl, rfl, rfl, (fun h => by cases h), rfl⟩, trivial⟩) (⟨⟨500, _, rfl, rfl, rfl, rfl, .inr ⟨rfl, _, rfl, rfl⟩⟩, ⟨1000, _, rfl, rfl, rfl, rfl, .inl rfl⟩, trivial⟩) (⟨(fun _ => ⟨500, _, rfl, rfl⟩), (fun _ => ⟨501, _, rfl, rfl⟩), (fun h => by cases h), (fun h => by cases h), (fun h => by cases h), trivial⟩) rfl) trivial rfl ?_
      refine .q (op_assign rfl) trivial rfl ?_
      refine .nil ?_
      exact ⟨(some (.inr (in_s hf hp hg8 hg15 (nv_t hc19) hk))), Nat.succ_pos _, StLe.mk [(1000, 1008)] rfl rfl ⟨⟨_, rfl, by first | rfl | (simp only [AV.ren]; congr 1; omega), rfl⟩, ⟨_, rfl, by first | rfl | (simp only [AV.ren]; congr 1; omega), rfl⟩, ⟨_, rfl, by first | rfl | (simp only [AV.ren]; congr 1; omega), rfl⟩, ⟨_, rfl, by first | rfl | (simp only [AV.ren]; congr 1; omega), rfl⟩, trivial⟩ ⟨⟨_, _, rfl, rfl, rfl, rfl, id, rfl⟩, ⟨_, _, rfl, rfl, rfl, rfl, id, rfl⟩, ⟨_, _, rfl, rfl, rfl, rfl, id, rfl⟩, ⟨_, _, rfl, rfl, rfl, rfl, id, rfl⟩, ⟨_, _, rfl, rfl, rfl, rfl, id, rfl⟩, trivial⟩⟩
     ·refine .a (op_call (U := [(500, some ⟨.agg [.bool ((readD h s).1).c, .nilsl, .i64 ((((readD h s).1).g : Nat) : Int), .str ((readD h s).1).v, .err 225 (((readD h s).1).e) (offE eo (((readD h s).1).e))], 115, true⟩), (501, none)]) [(500, 500), (501, 501)] [] (read_sn h s (hs) (hf.g) (hf.p) (List.length_pos_iff.2 hg8) (Bool.eq_false_iff.2 hk) eo) Tryd.func71 (by kernel_rfl) rfl rfl rfl (⟨⟨_, rfl, rfl, rfl⟩, ⟨_, rfl, rfl, rfl⟩, trivial⟩) (⟨⟨_, _, rfl, rfl, rfl, rfl, id, rfl⟩, ⟨_, _, rfl, rfl, rfl, rfl, id, rfl⟩, ⟨_, _, rfl, rfl, rfl, rfl, (fun h => by cases h), rfl⟩, ⟨_, _, rfl, rfl, rfl, rfl, (fun h => by cases h), rfl⟩, ⟨_, _, rfl, rfl, rfl, rfl, (fun h => by cases h), rfl⟩, trivial⟩) (⟨⟨500, _, rfl, rfl, rfl, rfl, .inr ⟨rfl, _, rfl, rfl⟩⟩, trivial⟩) (⟨(fun _ => ⟨500, _, rfl, rfl⟩), (fun _ => ⟨501, _, rfl, rfl⟩), (fun h => by cases h), (fun h => by cases h), (fun h => by cases h), trivial⟩) rfl) trivial rfl ?_
      refine .q (op_assign rfl) trivial rfl ?_
      refine .nil ?_
      exact ⟨(some (.inl (in_n hf hg8 hg15 (nv_t hc19) (Bool.eq_false_iff.2 hk)))), Nat.lt_succ_of_lt (readD_lt hg8), StLe.mk [] rfl rfl ⟨⟨_, rfl, by first | rfl | (simp only [AV.ren]; congr 1; omega), rfl⟩, ⟨_, rfl, by first | rfl | (simp only [AV.ren]; congr 1; omega), rfl⟩, ⟨_, rfl, by first | rfl | (simp only [AV.ren]; congr 1; omega), rfl⟩, ⟨_, rfl, by first | rfl | (simp only [AV.ren]; congr 1; omega), rfl⟩, trivial⟩ ⟨⟨_, _, rfl, rfl, rfl, rfl, id, rfl⟩, ⟨_, _, rfl, rfl, rfl, rfl, id, rfl⟩, ⟨_, _, rfl, rfl, rfl, rfl, id, rfl⟩, ⟨_, _, rfl, rfl, rfl, rfl, id, rfl⟩, trivial⟩⟩
    ·skip
     refine .exit ?_
     show Ev _ _ _ _ _
     have hng : goesD h s = false := by first | exact goes_s (bne_eq_false_iff_eq.1 hg8) | exact goes_s hg8 | exact goes_e hg15 | exact goes_v (nv_f hc19)
     exact absurd hgo (by rw [hng]; simp)
   ·first | replace hg15 := of_decide_eq_true hg15 | replace hg15 := of_decide_eq_false hg15 | replace hg15 := eq_of_beq hg15 | replace hg15 := ne_of_beq_false hg15 | simp only [bne_iff_ne, ne_eq] at hg15 | simp only [bne_eq_false_iff_eq] at hg15
    refine .no ⟨_, rfl, rfl⟩ rfl ?_
    refine .no ⟨_, rfl, rfl⟩ rfl ?_
    refine .no ⟨_, rfl, rfl⟩ rfl ?_
    refine .q (op_pick_false rfl rfl rfl) trivial rfl ?_
    refine .nil ?_
    show Ev _ _ _ _ _
    refine .cond_false rfl rfl ?_
    refine .exit ?_
    show Ev _ _ _ _ _
    have hng : goesD h s = false := by first | exact goes_s (bne_eq_false_iff_eq.1 hg8) | exact goes_s hg8 | exact goes_e hg15 | exact goes_v (nv_f hc19)
    exact absurd hgo (by rw [hng]; simp)
  ·first | replace hg8 := of_decide_eq_true hg8 | replace hg8 := of_decide_eq_false hg8 | replace hg8 := eq_of_beq hg8 | replace hg8 := ne_of_beq_false hg8 | simp only [bne_iff_ne, ne_eq] at hg8 | simp only [bne_eq_false_iff_eq] at hg8
   refine .no ⟨_, rfl, rfl⟩ rfl ?_
   refine .no ⟨_, rfl, rfl⟩ rfl ?_
   refine .no ⟨_, rfl, rfl⟩ rfl ?_
   refine .no ⟨_, rfl, rfl⟩ rfl ?_
   refine .no ⟨_, rfl, rfl⟩ rfl ?_
   refine .q (op_pick_false rfl rfl rfl) trivial rfl ?_
   refine .q (op_move rfl) trivial rfl ?_
   refine .no ⟨_, rfl, rfl⟩ rfl ?_
   refine .no ⟨_, rfl, rfl⟩ rfl ?_
   refine .no ⟨_, rfl, rfl⟩ rfl ?_
   refine .q (op_pick_false rfl rfl rfl) trivial rfl ?_
   refine .nil ?_
   show Ev _ _ _ _ _
   refine .cond_false rfl rfl ?_
   refine .exit ?_
   show Ev _ _ _ _ _
   have hng : goesD h s = false := by first | exact goes_s (bne_eq_false_iff_eq.1 hg8) | exact goes_s hg8 | exact goes_e hg15 | exact goes_v (nv_f hc19)
   exact absurd hgo (by rw [hng]; simp)
 ·dsimp only
  refine .seq ?_
  refine .seq ?_
  refine .region ?_
  refine .q (op_move rfl) trivial rfl ?_
  refine .q (op_eqS rfl rfl rfl) trivial rfl ?_
  refine .q (op_move rfl) trivial rfl ?_
  refine .split (fun hg8 => ?_) (fun hg8 => ?_)
  ·first | replace hg8 := of_decide_eq_true hg8 | replace hg8 := of_decide_eq_false hg8 | replace hg8 := eq_of_beq hg8 | replace hg8 := ne_of_beq_false hg8 | simp only [bne_iff_ne, ne_eq] at hg8 | simp only [bne_eq_false_iff_eq] at hg8
   refine .q (op_move rfl) ⟨_, rfl, rfl⟩ rfl ?_
   refine .q (op_nilCheck rfl) ⟨_, rfl, rfl⟩ rfl ?_
   refine .q (op_fieldAddr (m := 0) Tryd.underlying115 rfl (by kernel_rfl) rfl) ⟨_, rfl, rfl⟩ rfl ?_
   refine .as (.ptr 500 4) rfl ?_
   refine .q (op_load Tryd.underlying26 rfl rfl rfl rfl (by show 4 < 5; decide)) ⟨_, rfl, rfl⟩ rfl ?_
   refine .q (op_eqErrNil (e := i.k.e) Tryd.underlying26 rfl rfl) ⟨_, rfl, rfl⟩ rfl ?_
   refine .q (op_pick_true rfl rfl rfl) trivial rfl ?_
   refine .q (op_move rfl) trivial rfl ?_
   refine .split (fun hg15 => ?_) (fun hg15 => ?_)
   ·first | replace hg15 := of_decide_eq_true hg15 | replace hg15 := of_decide_eq_false hg15 | replace hg15 := eq_of_beq hg15 | replace hg15 := ne_of_beq_false hg15 | simp only [bne_iff_ne, ne_eq] at hg15 | simp only [bne_eq_false_iff_eq] at hg15
    refine .q (op_move rfl) ⟨_, rfl, rfl⟩ rfl ?_
    refine .q (op_call (U := []) [(500, 500)] [] (done_n i.k eo) Tryd.func30 (by kernel_rfl) rfl rfl rfl (⟨⟨_, rfl, rfl, rfl⟩, trivial⟩) (⟨⟨_, _, rfl, rfl, rfl, rfl, (fun h => by cases h), rfl⟩, trivial⟩) (trivial) (⟨(fun h => by cases h), trivial⟩) rfl) ⟨_, rfl, rfl⟩ rfl ?_
    refine .q (op_notB rfl) ⟨_, rfl, rfl⟩ rfl ?_
    refine .q (op_pick_true rfl rfl rfl) trivial rfl ?_
    refine .nil ?_
    show Ev _ _ _ _ _
    refine .cond rfl (fun hc19 => ?_) (fun hc19 => ?_)
    ·skip
     refine .skip ?_
     show Ev _ _ _ _ _
     refine .block ?_
     refine .region ?_
     refine .q (op_move rfl) trivial rfl ?_
     refine .q (op_move rfl) trivial rfl ?_
     refine dite (keepsD i.k i.q = true) (fun hk => ?_) (fun hk => ?_)
     ·refine .a (op_call (U := [(500, some ⟨.agg [.bool ((readD i.k i.q).1).c, .sl 1008 0 (readD i.k i.q).1.p.length 1, .i64 ((((readD i.k i.q).1).g : Nat) : Int), .str ((readD i.k i.q).1).v, .err 225 (((readD i.k i.q).1).e) (offE eo (((readD i.k i.q).1).e))], 115, true⟩), (1008, some ⟨.aggB (readD i.k i.q).1.p, 5, true⟩)]) [(500, 500)] [(1008, 1000)] (read_ns i.k i.q (Nat.le_trans i.le hs) (i.fine.g) (i.fine.p) (List.length_pos_iff.2 hg8) (i.p) hk eo) Tryd.func71 (by kernel_rfl) rfl rfl rfl (⟨⟨_, rfl, rfl, rfl⟩, ⟨_, rfl, rfl, rfl⟩, trivial⟩) (⟨⟨_, _, rfl, rfl, rfl, rfl, id, rfl⟩, ⟨_, _, rfl, rfl, rfl, rfl, (fun h => by cases h), rfl⟩, ⟨_, _, rfl, rfl, rfl, rfl, (fun h => by cases h), rfl⟩, ⟨_, _, rfl, rfl, rfl, rfl, (fun h => by cases h), rfl⟩, trivial⟩) (⟨⟨500, _, rfl, rfl, rfl, rfl, .inr ⟨rfl, _, rfl, rfl⟩⟩, ⟨1000, _, rfl, rfl, rfl, rfl, .inl rfl⟩, trivial⟩) (⟨(fun _ => ⟨500, _, rfl, rfl⟩), (fun h => by cases h), (fun h => by cases h), (fun h => by cases h), trivial⟩) rfl) trivial rfl ?_
      refine .q (op_assign rfl) trivial rfl ?_
      refine .nil ?_
      exact ⟨(some (.inr (i.ns hg8 hg15 (nv_t hc19) hk))), List.length_pos_iff.2 hg8, StLe.mk [(1000, 1008)] rfl rfl ⟨⟨_, rfl, by first | rfl | (simp only [AV.ren]; congr 1; omega), rfl⟩, ⟨_, rfl, by first | rfl | (simp only [AV.ren]; congr 1; omega), rfl⟩, ⟨_, rfl, by first | rfl | (simp only [AV.ren]; congr 1; omega), rfl⟩, ⟨_, rfl, by first | rfl | (simp only [AV.ren]; congr 1; omega), rfl⟩, trivial⟩ ⟨⟨_, _, rfl, rfl, rfl, rfl, id, rfl⟩, ⟨_, _, rfl, rfl, rfl, rfl, id, rfl⟩, ⟨_, _, rfl, rfl, rfl, rfl, id, rfl⟩, ⟨_, _, rfl, rfl, rfl, rfl, id, rfl⟩, ⟨_, _, rfl, rfl, rfl, rfl, id, rfl⟩, trivial⟩⟩
     ·refine .a (op_call (U := [(500, some ⟨.agg [.bool ((readD i.k i.q).1).c, .nilsl, .i64 ((((readD i.k i.q).1).g : Nat) : Int), .str ((readD i.k i.q).1).v, .err 225 (((readD i.k i.q).1).e) (offE eo (((readD i.k i.q).1).e))], 115, true⟩)]) [(500, 500)] [] (read_nn i.k i.q (Nat.le_trans i.le hs) (i.fine.g) (i.fine.p) (List.length_pos_iff.2 hg8) (i.p) (Bool.eq_false_iff.2 hk) eo) Tryd.func71 (by kernel_rfl) rfl rfl rfl (⟨⟨_, rfl, rfl, rfl⟩, ⟨_, rfl, rfl, rfl⟩, trivial⟩) (⟨⟨_, _, rfl, rfl, rfl, rfl, id, rfl⟩, ⟨_, _, rfl, rfl, rfl, rfl, (fun h => by cases h), rfl⟩, ⟨_, _, rfl, rfl, rfl, rfl, (fun h => by cases h), rfl⟩, ⟨_, _, rfl, rfl, rfl, rfl, (fun h => by cases h), rfl⟩, trivial⟩) (⟨⟨500, _, rfl, rfl, rfl, rfl, .inr ⟨rfl, _, rfl, rfl⟩⟩, trivial⟩) (⟨(fun _ => ⟨500, _, rfl, rfl⟩), (fun h => by cases h), (fun h => by cases h), (fun h => by cases h), trivial⟩) rfl) trivial rfl ?_
      refine .q (op_assign rfl) trivial rfl ?_
      refine .nil ?_
      exact ⟨(some (.inl (i.nn hg8 hg15 (nv_t hc19) (Bool.eq_false_iff.2 hk)))), readD_lt hg8, StLe.mk [] rfl rfl ⟨⟨_, rfl, by first | rfl | (simp only [AV.ren]; congr 1; omega), rfl⟩, ⟨_, rfl, by first | rfl | (simp only [AV.ren]; congr 1; omega), rfl⟩, ⟨_, rfl, by first | rfl | (simp only [AV.ren]; congr 1; omega), rfl⟩, ⟨_, rfl, by first | rfl | (simp only [AV.ren]; congr 1; omega), rfl⟩, trivial⟩ ⟨⟨_, _, rfl, rfl, rfl, rfl, id, rfl⟩, ⟨_, _, rfl, rfl, rfl, rfl, id, rfl⟩, ⟨_, _, rfl, rfl, rfl, rfl, id, rfl⟩, ⟨_, _, rfl, rfl, rfl, rfl, id, rfl⟩, trivial⟩⟩
    ·skip
     refine .exit ?_
     show Ev _ _ _ _ _
     have hng : goesD i.k i.q = false := by first | exact goes_s (bne_eq_false_iff_eq.1 hg8) | exact goes_s hg8 | exact goes_e hg15 | exact goes_v (nv_f hc19)
     have hF := i.f.trans (feedD_end hng)
     exact absurd (show (feedD h s).1.p = [] by rw [hF]; exact i.p) hfin
   ·first | replace hg15 := of_decide_eq_true hg15 | replace hg15 := of_decide_eq_false hg15 | replace hg15 := eq_of_beq hg15 | replace hg15 := ne_of_beq_false hg15 | simp only [bne_iff_ne, ne_eq] at hg15 | simp only [bne_eq_false_iff_eq] at hg15
    refine .no ⟨_, rfl, rfl⟩ rfl ?_
    refine .no ⟨_, rfl, rfl⟩ rfl ?_
    refine .no ⟨_, rfl, rfl⟩ rfl ?_
    refine .q (op_pick_false rfl rfl rfl) trivial rfl ?_
    refine .nil ?_
    show Ev _ _ _ _ _
    refine .cond_false rfl rfl ?_
    refine .exit ?_
    show Ev _ _ _ _ _
    have hng : goesD i.k i.q = false := by first | exact goes_s (bne_eq_false_iff_eq.1 hg8) | exact goes_s hg8 | exact goes_e hg15 | exact goes_v (nv_f hc19)
    have hF := i.f.trans (feedD_end hng)
    exact absurd (show (feedD h s).1.p = [] by rw [hF]; exact i.p) hfin
  ·first | replace hg8 := of_decide_eq_true hg8 | replace hg8 := of_decide_eq_false hg8 | replace hg8 := eq_of_beq hg8 | replace hg8 := ne_of_beq_false hg8 | simp only [bne_iff_ne, ne_eq] at hg8 | simp only [bne_eq_false_iff_eq] at hg8
   refine .no ⟨_, rfl, rfl⟩ rfl ?_
   refine .no ⟨_, rfl, rfl⟩ rfl ?_
   refine .no ⟨_, rfl, rfl⟩ rfl ?_
   refine .no ⟨_, rfl, rfl⟩ rfl ?_
   refine .no ⟨_, rfl, rfl⟩ rfl ?_
   refine .q (op_pick_false rfl rfl rfl) trivial rfl ?_
   refine .q (op_move rfl) trivial rfl ?_
   refine .no ⟨_, rfl, rfl⟩ rfl ?_
   refine .no ⟨_, rfl, rfl⟩ rfl ?_
   refine .no ⟨_, rfl, rfl⟩ rfl ?_
   refine .q (op_pick_false rfl rfl rfl) trivial rfl ?_
   refine .nil ?_
   show Ev _ _ _ _ _
   refine .cond_false rfl rfl ?_
   refine .exit ?_
   show Ev _ _ _ _ _
   have hng : goesD i.k i.q = false := by first | exact goes_s (bne_eq_false_iff_eq.1 hg8) | exact goes_s hg8 | exact goes_e hg15 | exact goes_v (nv_f hc19)
   have hF := i.f.trans (feedD_end hng)
   exact absurd (show (feedD h s).1.p = [] by rw [hF]; exact i.p) hfin
 ·dsimp only
  refine .seq ?_
  refine .seq ?_
  refine .region ?_
  refine .q (op_move rfl) trivial rfl ?_
  refine .q (op_eqS rfl rfl rfl) trivial rfl ?_
  refine .q (op_move rfl) trivial rfl ?_
  refine .know (b' := false) (by rw [i.z]; rfl) ?_
  refine .no ⟨_, rfl, rfl⟩ rfl ?_
  refine .no ⟨_, rfl, rfl⟩ rfl ?_
  refine .no ⟨_, rfl, rfl⟩ rfl ?_
  refine .no ⟨_, rfl, rfl⟩ rfl ?_
  refine .no ⟨_, rfl, rfl⟩ rfl ?_
  refine .q (op_pick_false rfl rfl rfl) trivial rfl ?_
  refine .q (op_move rfl) trivial rfl ?_
  refine .no ⟨_, rfl, rfl⟩ rfl ?_
  refine .no ⟨_, rfl, rfl⟩ rfl ?_
  refine .no ⟨_, rfl, rfl⟩ rfl ?_
  refine .q (op_pick_false rfl rfl rfl) trivial rfl ?_
  refine .nil ?_
  show Ev _ _ _ _ _
  refine .cond_false rfl rfl ?_
  refine .exit ?_
  show Ev _ _ _ _ _
  have hng : goesD i.k i.q = false := by first | exact goes_s (bne_eq_false_iff_eq.1 hg8) | exact goes_s hg8 | exact goes_e hg15 | exact goes_v (nv_f hc19) | exact goes_s i.z
  have hF := i.f.trans (feedD_end hng)
  refine .seq ?_
  refine .seq ?_
  refine .region ?_
  refine .q (op_move rfl) trivial rfl ?_
  refine .q (op_nilCheck rfl) trivial rfl ?_
  refine .q (op_fieldAddr (m := 0) Tryd.underlying115 rfl (by kernel_rfl) rfl) trivial rfl ?_
  refine .as (.ptr 500 4) rfl ?_
  refine .q (op_load Tryd.underlying26 rfl rfl rfl rfl (by show 4 < 5; decide)) trivial rfl ?_
  refine .q (op_eqErrNil (e := i.k.e) Tryd.underlying26 rfl rfl) trivial rfl ?_
  refine .nil ?_
  show Ev _ _ _ _ _
  refine .cond rfl (fun hc27 => ?_) (fun hc27 => ?_)
  ·first | replace hc27 := of_decide_eq_true hc27 | replace hc27 := of_decide_eq_false hc27 | replace hc27 := eq_of_beq hc27 | replace hc27 := ne_of_beq_false hc27 | simp only [bne_iff_ne, ne_eq] at hc27 | simp only [bne_eq_false_iff_eq] at hc27
   refine .seq ?_
   refine .drawn [[], [0], [0, 1], [0, 1, 2], [], [0, 1, 2, 3, 4]] [3] [] (by kernel_rfl) (by kernel_rfl) rfl ?_
   show DK _ [0, 1, 2, 3, 4, 5] _ _ _
   refine .q rfl (op_move rfl) trivial ?_
   refine .q rfl (op_nilCheck rfl) trivial ?_
   refine .q rfl (op_fieldAddr (m := 0) Tryd.underlying115 rfl (by kernel_rfl) rfl) trivial ?_
   refine .as (.ptr 500 4) rfl ?_
   refine .q rfl (op_load Tryd.underlying26 rfl rfl rfl rfl (by show 4 < 5; decide)) trivial ?_
   refine .q rfl (op_assign rfl) trivial ?_
   refine .q rfl (op_assign rfl) trivial ?_
   refine .nil ?_
   show Ev _ _ _ _ _
   refine .ret ?_
   show RetOk _ _ _ _ _ _ _
   first
    | exact ret2v rfl (.inl rfl) rfl rfl (congrArg AV.str (by unfold feedR; rw [hF]; first | (exact (if_pos hc27).symm) | (exact (if_neg hc27).symm))) (congrArg (fun z : HD => AV.err 225 (z.e) (offE eo (z.e))) (congrArg Prod.fst hF).symm) ⟨congrArg (fun z : HD => some (ABlk.mk (.agg [.bool (z).c, .sl 1000 0 z.p.length 1, .i64 (((z).g : Nat) : Int), .str (z).v, .err 225 ((z).e) (offE eo ((z).e))]) 115 true)) (congrArg Prod.fst hF).symm, congrArg (fun z : HD => some (ABlk.mk (.aggB z.p) 5 true)) (congrArg Prod.fst hF).symm, trivial⟩
    | exact ret2v rfl (.inl rfl) rfl rfl (congrArg AV.str (by unfold feedR; rw [hF]; first | (exact (if_pos hc27).symm) | (exact (if_neg hc27).symm))) (by rw [hF]; show AV.err 225 (0) (offE eo (0)) = AV.err 225 (i.k.e) (offE eo (i.k.e)); rw [hc27]) ⟨congrArg (fun z : HD => some (ABlk.mk (.agg [.bool (z).c, .sl 1000 0 z.p.length 1, .i64 (((z).g : Nat) : Int), .str (z).v, .err 225 ((z).e) (offE eo ((z).e))]) 115 true)) (congrArg Prod.fst hF).symm, congrArg (fun z : HD => some (ABlk.mk (.aggB z.p) 5 true)) (congrArg Prod.fst hF).symm, trivial⟩
  ·first | replace hc27 := of_decide_eq_true hc27 | replace hc27 := of_decide_eq_false hc27 | replace hc27 := eq_of_beq hc27 | replace hc27 := ne_of_beq_false hc27 | simp only [bne_iff_ne, ne_eq] at hc27 | simp only [bne_eq_false_iff_eq] at hc27
   refine .skip ?_
   show Ev _ _ _ _ _
   refine .seq ?_
   refine .region ?_
   refine .q (op_move rfl) trivial rfl ?_
   refine .q (op_assign rfl) trivial rfl ?_
   refine .q (op_assign rfl) trivial rfl ?_
   refine .asR (.err 225 (0) (offE eo (0))) (nil_err _ _) ?_
   refine .nil ?_
   show Ev _ _ _ _ _
   refine .ret ?_
   show RetOk _ _ _ _ _ _ _
   first
    | exact ret2v rfl (.inl rfl) rfl rfl (congrArg AV.str (by unfold feedR; rw [hF]; first | (exact (if_pos hc27).symm) | (exact (if_neg hc27).symm))) (congrArg (fun z : HD => AV.err 225 (z.e) (offE eo (z.e))) (congrArg Prod.fst hF).symm) ⟨congrArg (fun z : HD => some (ABlk.mk (.agg [.bool (z).c, .sl 1000 0 z.p.length 1, .i64 (((z).g : Nat) : Int), .str (z).v, .err 225 ((z).e) (offE eo ((z).e))]) 115 true)) (congrArg Prod.fst hF).symm, congrArg (fun z : HD => some (ABlk.mk (.aggB z.p) 5 true)) (congrArg Prod.fst hF).symm, trivial⟩
    | exact ret2v rfl (.inl rfl) rfl rfl (congrArg AV.str (by unfold feedR; rw [hF]; first | (exact (if_pos hc27).symm) | (exact (if_neg hc27).symm))) (by rw [hF]; show AV.err 225 (0) (offE eo (0)) = AV.err 225 (i.k.e) (offE eo (i.k.e)); rw [hc27]) ⟨congrArg (fun z : HD => some (ABlk.mk (.agg [.bool (z).c, .sl 1000 0 z.p.length 1, .i64 (((z).g : Nat) : Int), .str (z).v, .err 225 ((z).e) (offE eo ((z).e))]) 115 true)) (congrArg Prod.fst hF).symm, congrArg (fun z : HD => some (ABlk.mk (.aggB z.p) 5 true)) (congrArg Prod.fst hF).symm, trivial⟩
end Go.Proofs.YteefpaiefphdpaaDoor
namespace Go.Proofs.YteefpaiefphdpaaDoor
theorem cut_app : ∀ (c : UInt8) (t r : List UInt8), t.contains c = false → cutB c (t ++ c :: r) = t
  | c, [], r, _ => by simp [cutB]
  | c, x :: t, r, h => by
    simp only [List.contains_cons, Bool.or_eq_false_iff] at h
    have hb : (x != c) = true := by have := h.1; rw [beq_eq_false_iff_ne] at this; simpa using fun e => this e.symm
    have := cut_app c t r h.2
    unfold cutB at this ⊢
    rw [List.cons_append, List.takeWhile_cons, if_pos hb, this]
theorem has_app (c : UInt8) (t r : List UInt8) : (t ++ c :: r).contains c = true := by simp
theorem read_line {h : HD} (hp : h.p = []) {t : List UInt8} (r : List UInt8) (ht : t.contains 10 = false) (hl : t.length ≤ 254) :
    readD h (t ++ 10 :: r) = ({ procH h (crB t) with e := procE h (crB t) }, r) := by
  have e1 : { h with p := [] } = h := by cases h; simp only at hp; subst hp; rfl
  have hpc : pieceD h (t ++ 10 :: r) = t ++ 10 :: r.take (254 - t.length) := by
    unfold pieceD
    rw [hp, List.length_nil, Nat.sub_zero, List.take_append, List.take_of_length_le (by omega), show 255 - t.length = (254 - t.length) + 1 by omega, List.take_succ_cons]
  unfold readD lineD
  rw [hpc, if_pos (has_app 10 t _), cut_app 10 t _ ht, e1, hp, List.nil_append]
  have hd : (t ++ 10 :: r).drop (t.length + 1) = r := by
    rw [List.drop_append, List.drop_of_length_le (by omega), List.nil_append, show t.length + 1 - t.length = 1 by omega]; rfl
  rw [hd]
theorem read_long {h : HD} (hp : h.p = []) {s : List UInt8} (hs : (s.take 255).contains 10 = false) (hl : 255 ≤ s.length) : readD h s = ({ h with p := [], e := 4 }, []) := by
  have hpc : pieceD h s = s.take 255 := by unfold pieceD; rw [hp]; rfl
  unfold readD
  rw [hpc, if_neg (by rw [hs]; simp), if_pos (by rw [hp, List.length_take, List.length_nil]; omega)]
theorem goes_t {h : HD} {s : List UInt8} (hs : s ≠ []) (he : h.e = 0) (hv : h.v = []) : goesD h s = true := by
  unfold goesD; rw [show (s == []) = false from beq_eq_false_iff_ne.2 hs, he, hv]; rfl
theorem sw_not {s : List UInt8} (h : s.all swOk = true) {c : UInt8} (hc : swOk c = false) : s.contains c = false := by
  cases hs : s.contains c with
  | false => rfl
  | true =>
    rw [List.contains_iff_mem] at hs
    have := List.all_eq_true.1 h c hs
    rw [hc] at this; cases this
theorem soft_sw {s : List UInt8} (h : softOk s = true) : s ≠ [] ∧ s.length ≤ 64 ∧ s.all swOk = true := by
  simp only [softOk, Bool.and_eq_true, Bool.not_eq_true', beq_eq_false_iff_ne, decide_eq_true_eq] at h
  exact ⟨h.1.1, h.1.2, h.2⟩
theorem con_app (c : UInt8) (a b : List UInt8) : (a ++ b).contains c = (a.contains c || b.contains c) := by
  rw [Bool.eq_iff_iff]; simp
theorem beg_app (p s : List UInt8) : begB p (p ++ s) = true := by unfold begB; simp
theorem crB_last {l : List UInt8} {x : UInt8} (h : l.getLast? = some x) (hx : x ≠ 13) : crB l = l := by
  unfold crB; rw [if_neg (by rw [h]; simpa using hx)]
theorem crB_app (l : List UInt8) : crB (l ++ [13]) = l := by
  unfold crB; rw [if_pos (by simp)]; simp
/-- The answer to a version line that may be. -/
theorem proc_ver {h : HD} {l : List UInt8} (h0 : l.contains 0 = false) (h1 : begB sshP l = true) (h2 : verB l = true) : procE h l = 0 ∧ procH h l = { h with v := l } := by
  unfold procE procH
  rw [h0, h1, h2]
  exact ⟨rfl, rfl⟩
theorem ver_soft {s : List UInt8} (h : softOk s = true) : verB (ssh2 ++ s) = true := by
  have hs := soft_sw h
  unfold verB restB
  rw [beg_app, if_pos rfl, show (ssh2 ++ s).drop 8 = s from rfl, cut_none 32 s (sw_not hs.2.2 (by decide)), h]; rfl
theorem feed_line (c : Bool) {s : List UInt8} (r : List UInt8) (h : softOk s = true) : feedD ⟨c, [], 0, [], 0⟩ (ssh2 ++ s ++ 13 :: 10 :: r) = (⟨c, [], 0, ssh2 ++ s, 0⟩, r) := by
  have hs := soft_sw h
  have e : ssh2 ++ s ++ 13 :: 10 :: r = (ssh2 ++ s ++ [13]) ++ 10 :: r := by simp
  rw [e, feedD_go (goes_t (by simp) rfl rfl), read_line rfl r (by
    rw [con_app, con_app, sw_not hs.2.2 (by decide)]; rfl) (by simp [ssh2]; omega), crB_app]
  have hp := proc_ver (h := ⟨c, [], 0, [], 0⟩) (l := ssh2 ++ s) (by rw [con_app, sw_not hs.2.2 (by decide)]; rfl) rfl (ver_soft h)
  rw [hp.1, hp.2]
  exact feedD_end (by unfold goesD; rw [show ((ssh2 ++ s) == []) = false from rfl]; simp)
def hiL : List UInt8 := [104, 105, 10]
def hiN : Nat → List UInt8
  | 0 => []
  | n + 1 => hiN n ++ hiL
theorem hi_succ (n : Nat) : hiN (n + 1) = hiL ++ hiN n := by
  induction n with
  | zero => rfl
  | succ n ih => rw [hiN, ih, List.append_assoc, ← hiN, ih]
theorem len_hi (n : Nat) : (hiN n).length = 3 * n := by
  induction n with
  | zero => rfl
  | succ n ih => rw [hiN, List.length_append, ih]; simp [hiL]; omega
def verY : List UInt8 := [83, 83, 72, 45, 50, 46, 48, 45, 121]
theorem feed_y (g : Nat) : feedD ⟨true, [], g, [], 0⟩ (verY ++ [10]) = (⟨true, [], g, verY, 0⟩, []) := by
  rw [feedD_go rfl, show verY ++ [10] = verY ++ 10 :: [] from rfl, read_line rfl [] (by decide) (by decide)]
  have hp := proc_ver (h := ⟨true, [], g, [], 0⟩) (l := verY) (by decide) (by decide) (by decide)
  rw [show crB verY = verY by decide, hp.1, hp.2]
  exact feedD_end (by simp [goesD])
theorem proc_hi (g : Nat) (h : g < 16) : procE ⟨true, [], g, [], 0⟩ (crB [104, 105]) = 0 ∧ procH ⟨true, [], g, [], 0⟩ (crB [104, 105]) = ⟨true, [], g + 1, [], 0⟩ := by
  have hn : ¬ ((true : Bool) = false ∨ g = 16) := by simp; omega
  unfold procE procH
  rw [show ([104, 105] : List UInt8) |> crB |>.contains 0 |> (· = false) from by decide, show begB sshP (crB [104, 105]) = false by decide]
  simp only [Bool.false_eq_true, if_false]
  rw [if_neg hn, if_neg hn]
  exact ⟨rfl, rfl⟩
theorem feed_hi : ∀ (n g : Nat), g + n ≤ 16 → feedD ⟨true, [], g, [], 0⟩ (hiN n ++ (verY ++ [10])) = (⟨true, [], g + n, verY, 0⟩, [])
  | 0, g, _ => feed_y g
  | n + 1, g, h => by
    have e : hiN (n + 1) ++ (verY ++ [10]) = [104, 105] ++ 10 :: (hiN n ++ (verY ++ [10])) := by rw [hi_succ]; rfl
    have hp := proc_hi g (by omega)
    rw [e, feedD_go (goes_t (by simp) rfl rfl), read_line rfl _ (by decide) (by decide), hp.1, hp.2]
    have := feed_hi n (g + 1) (by omega)
    rw [show g + 1 + n = g + (n + 1) by omega] at this
    exact this
theorem feed_his : ∀ (n g : Nat), g ≤ 16 → 16 < g + n → ∃ r, feedD ⟨true, [], g, [], 0⟩ (hiN n ++ (verY ++ [10])) = (⟨true, [], 16, [], 12⟩, r)
  | 0, g, h1, h2 => by omega
  | n + 1, g, h1, h2 => by
    have e : hiN (n + 1) ++ (verY ++ [10]) = [104, 105] ++ 10 :: (hiN n ++ (verY ++ [10])) := by rw [hi_succ]; rfl
    rw [e, feedD_go (goes_t (by simp) rfl rfl), read_line rfl _ (by decide) (by decide)]
    by_cases hg : g = 16
    · subst hg
      refine ⟨hiN n ++ (verY ++ [10]), ?_⟩
      rw [show procE ⟨true, [], 16, [], 0⟩ (crB [104, 105]) = 12 by decide, show procH ⟨true, [], 16, [], 0⟩ (crB [104, 105]) = ⟨true, [], 16, [], 0⟩ by rfl]
      exact feedD_end (by simp [goesD])
    · have hp := proc_hi g (by omega)
      rw [hp.1, hp.2]
      exact feed_his n (g + 1) (by omega) (by omega)
def padV (m : Nat) : List UInt8 := verY ++ [32] ++ List.replicate m 120
theorem len_pad (m : Nat) : (padV m).length = 10 + m := by simp [padV, verY]; omega
theorem rep_not {c : UInt8} (m : Nat) (h : c ≠ 120) : (List.replicate m (120 : UInt8)).contains c = false := by
  cases hs : (List.replicate m (120 : UInt8)).contains c with
  | false => rfl
  | true =>
    rw [List.contains_iff_mem] at hs
    exact absurd (List.mem_replicate.1 hs).2 h
theorem pad_not {c : UInt8} (m : Nat) (h : c ≠ 120) (h2 : (verY ++ [32]).contains c = false) : (padV m).contains c = false := by
  unfold padV; rw [con_app, h2, rep_not m h]; rfl
theorem pad_last (m : Nat) : ∃ x, (padV m).getLast? = some x ∧ x ≠ 13 := by
  unfold padV
  cases m with
  | zero => exact ⟨32, by decide, by decide⟩
  | succ m => exact ⟨120, by rw [List.replicate_succ', ← List.append_assoc, List.getLast?_append]; rfl, by decide⟩
theorem ver_pad (m : Nat) : verB (padV m) = true := by
  have e : padV m = ssh2 ++ ([121] ++ 32 :: List.replicate m 120) := by simp [padV, verY, ssh2]
  unfold verB restB
  rw [e, beg_app, if_pos rfl, show List.drop 8 (ssh2 ++ ([121] ++ 32 :: List.replicate m 120)) = [121] ++ 32 :: List.replicate m 120 from rfl, cut_app 32 [121] _ (by decide), Bool.true_or, Bool.true_and]
  decide
theorem feed_pad {m : Nat} (h : m + 10 < 255) : feedD ⟨true, [], 0, [], 0⟩ (padV m ++ [10]) = (⟨true, [], 0, padV m, 0⟩, []) := by
  have hl := len_pad m
  obtain ⟨x, h1, h2⟩ := pad_last m
  rw [feedD_go (goes_t (by simp) rfl rfl), show padV m ++ [10] = padV m ++ 10 :: [] from rfl, read_line rfl [] (pad_not m (by decide) (by decide)) (by omega), crB_last h1 h2]
  have hp := proc_ver (h := ⟨true, [], 0, [], 0⟩) (l := padV m) (pad_not m (by decide) (by decide)) (by unfold begB padV; simp [sshP, verY]) (ver_pad m)
  rw [hp.1, hp.2]
  exact feedD_end (by simp [goesD])
theorem feed_pads {m : Nat} (h : ¬ m + 10 < 255) : feedD ⟨true, [], 0, [], 0⟩ (padV m ++ [10]) = (⟨true, [], 0, [], 4⟩, []) := by
  have hl := len_pad m
  rw [feedD_go (goes_t (by simp) rfl rfl), read_long rfl (by
    rw [List.take_append_of_le_length (by omega)]
    cases hs : ((padV m).take 255).contains 10 with
    | false => rfl
    | true =>
      rw [List.contains_iff_mem] at hs
      have := List.mem_of_mem_take hs
      rw [← List.contains_iff_mem, pad_not m (by decide) (by decide)] at this
      cases this) (by simp; omega)]
  exact feedD_end (by simp [goesD])
end Go.Proofs.YteefpaiefphdpaaDoor
namespace Go.Proofs.YteefpaiefphdpaaDoor
open Go.RowKit
theorem fine0 (c : Bool) : (HD.mk c [] 0 [] 0).fine := ⟨Nat.zero_le _, Nat.zero_le _, fun h => absurd rfl h, fun h => absurd rfl h, fun h => absurd rfl h⟩
theorem soft_ref1 {s : List UInt8} (h0 : 1 ≤ s.length) (h : s.all swOk = true) : decide ((s.length : Int) ≤ 64) = softOk s := by
  unfold softOk
  rw [h, show (s == []) = false from beq_eq_false_iff_ne.2 (fun e => by subst e; simp at h0), Bool.not_false, Bool.true_and, Bool.and_true]
  exact decide_eq_decide.2 (by omega)
theorem soft_ref0 {s : List UInt8} (h0 : ¬ 1 ≤ s.length) : false = softOk s := by
  have : s = [] := List.eq_nil_of_length_eq_zero (by omega)
  subst this; rfl
set_option maxRecDepth 100000 in
theorem rword_ev (s : List UInt8) (hs : s.length ≤ 9000000000) : Meets Tryd.prog 70 [.str s] [] (.bool (softOk s)) [] := by
 refine meets_of_ev (nt := 34) Tryd.func70 rfl rfl (Nat.le_of_ble_eq_true rfl) ?_
 refine .seq ?_
 refine .region ?_
 refine .q (op_assign rfl) trivial rfl ?_
 refine .nil ?_
 show Ev _ _ _ _ _
 refine .seq ?_
 refine .seq ?_
 refine .region ?_
 refine .q (op_assign rfl) trivial rfl ?_
 refine .nil ?_
 show Ev _ _ _ _ _
 refine .block ?_
 refine Ev.loop (ι := { j : Nat // j ≤ s.length ∧ (s.take j).all swOk = true }) (fun q => ⟨[(0, .str s), (3, .i64 ((q.1 : Nat) : Int))], [], 1000⟩) (fun q => s.length - q.1) ⟨0, Nat.zero_le _, rfl⟩ (StLe.mk [] rfl rfl ⟨⟨_, rfl, by first | rfl | (simp only [AV.ren]; congr 1; omega), rfl⟩, ⟨_, rfl, by first | rfl | (simp only [AV.ren]; congr 1; omega), rfl⟩, trivial⟩ trivial) ?_
 rintro ⟨j, hj, hq⟩
 try dsimp only
 refine .seq ?_
 refine .seq ?_
 refine .region ?_
 refine .q (op_move rfl) trivial rfl ?_
 refine .q (op_move rfl) trivial rfl ?_
 refine .q (op_len_str Tryd.underlying9 rfl) trivial rfl ?_
 refine .q (op_cmpI rfl rfl rfl) trivial rfl ?_
 refine .nil ?_
 show Ev _ _ _ _ _
 refine .cond rfl (fun hc7 => ?_) (fun hc7 => ?_)
 ·first | replace hc7 := of_decide_eq_true hc7 | replace hc7 := of_decide_eq_false hc7 | replace hc7 := eq_of_beq hc7 | replace hc7 := ne_of_beq_false hc7 | simp only [bne_iff_ne, ne_eq] at hc7 | simp only [bne_eq_false_iff_eq] at hc7
  refine .skip ?_
  show Ev _ _ _ _ _
  refine .seq ?_
  refine .block ?_
  refine .seq ?_
  refine .region ?_
  refine .q (op_move rfl) trivial rfl ?_
  refine .q (op_move rfl) trivial rfl ?_
  refine .q (op_index_str Tryd.underlying9 rfl rfl rfl (by omega)) trivial rfl ?_
  refine .q (op_bin8 rfl rfl rfl) trivial rfl ?_
  refine .q (op_move rfl) trivial rfl ?_
  refine .split (fun hg14 => ?_) (fun hg14 => ?_)
  ·first | replace hg14 := of_decide_eq_true hg14 | replace hg14 := of_decide_eq_false hg14 | replace hg14 := eq_of_beq hg14 | replace hg14 := ne_of_beq_false hg14 | simp only [bne_iff_ne, ne_eq] at hg14 | simp only [bne_eq_false_iff_eq] at hg14
   refine .no ⟨_, rfl, rfl⟩ rfl ?_
   refine .no ⟨_, rfl, rfl⟩ rfl ?_
   refine .no ⟨_, rfl, rfl⟩ rfl ?_
   refine .no ⟨_, rfl, rfl⟩ rfl ?_
   refine .q (op_pick_true rfl rfl rfl) trivial rfl ?_
   refine .q (op_move rfl) trivial rfl ?_
   refine .no ⟨_, rfl, rfl⟩ rfl ?_
   refine .no ⟨_, rfl, rfl⟩ rfl ?_
   refine .no ⟨_, rfl, rfl⟩ rfl ?_
   refine .no ⟨_, rfl, rfl⟩ rfl ?_
   refine .q (op_pick_true rfl rfl rfl) trivial rfl ?_
   refine .nil ?_
   show Ev _ _ _ _ _
   refine .cond_true rfl rfl ?_
   refine .seq ?_
   refine .region ?_
   refine .q (op_assign rfl) trivial rfl ?_
   refine .nil ?_
   show Ev _ _ _ _ _
   refine .ret ?_
   show RetOk _ _ _ _ _ _ _
   exact ret1v rfl (.inl rfl) rfl (congrArg AV.bool (by first | exact (soft_bad (j := j) (by omega) (by first | exact sw_a (lt33.1 hg14) | exact sw_b hg20 | exact sw_c hc25)).symm | exact soft_ref1 (by omega) (by rwa [List.take_of_length_le (by omega)] at hq) | exact soft_ref0 (by omega))) trivial
  ·first | replace hg14 := of_decide_eq_true hg14 | replace hg14 := of_decide_eq_false hg14 | replace hg14 := eq_of_beq hg14 | replace hg14 := ne_of_beq_false hg14 | simp only [bne_iff_ne, ne_eq] at hg14 | simp only [bne_eq_false_iff_eq] at hg14
   refine .q (op_move rfl) ⟨_, rfl, rfl⟩ rfl ?_
   refine .q (op_move rfl) ⟨_, rfl, rfl⟩ rfl ?_
   refine .q (op_index_str Tryd.underlying9 rfl rfl rfl (by omega)) ⟨_, rfl, rfl⟩ rfl ?_
   refine .q (op_bin8 rfl rfl rfl) ⟨_, rfl, rfl⟩ rfl ?_
   refine .q (op_pick_false rfl rfl rfl) trivial rfl ?_
   refine .q (op_move rfl) trivial rfl ?_
   refine .split (fun hg20 => ?_) (fun hg20 => ?_)
   ·first | replace hg20 := of_decide_eq_true hg20 | replace hg20 := of_decide_eq_false hg20 | replace hg20 := eq_of_beq hg20 | replace hg20 := ne_of_beq_false hg20 | simp only [bne_iff_ne, ne_eq] at hg20 | simp only [bne_eq_false_iff_eq] at hg20
    refine .no ⟨_, rfl, rfl⟩ rfl ?_
    refine .no ⟨_, rfl, rfl⟩ rfl ?_
    refine .no ⟨_, rfl, rfl⟩ rfl ?_
    refine .no ⟨_, rfl, rfl⟩ rfl ?_
    refine .q (op_pick_true rfl rfl rfl) trivial rfl ?_
    refine .nil ?_
    show Ev _ _ _ _ _
    refine .cond_true rfl rfl ?_
    refine .seq ?_
    refine .region ?_
    refine .q (op_assign rfl) trivial rfl ?_
    refine .nil ?_
    show Ev _ _ _ _ _
    refine .ret ?_
    show RetOk _ _ _ _ _ _ _
    exact ret1v rfl (.inl rfl) rfl (congrArg AV.bool (by first | exact (soft_bad (j := j) (by omega) (by first | exact sw_a (lt33.1 hg14) | exact sw_b hg20 | exact sw_c hc25)).symm | exact soft_ref1 (by omega) (by rwa [List.take_of_length_le (by omega)] at hq) | exact soft_ref0 (by omega))) trivial
   ·first | replace hg20 := of_decide_eq_true hg20 | replace hg20 := of_decide_eq_false hg20 | replace hg20 := eq_of_beq hg20 | replace hg20 := ne_of_beq_false hg20 | simp only [bne_iff_ne, ne_eq] at hg20 | simp only [bne_eq_false_iff_eq] at hg20
    refine .q (op_move rfl) ⟨_, rfl, rfl⟩ rfl ?_
    refine .q (op_move rfl) ⟨_, rfl, rfl⟩ rfl ?_
    refine .q (op_index_str Tryd.underlying9 rfl rfl rfl (by omega)) ⟨_, rfl, rfl⟩ rfl ?_
    refine .q (op_bin8 rfl rfl rfl) ⟨_, rfl, rfl⟩ rfl ?_
    refine .q (op_pick_false rfl rfl rfl) trivial rfl ?_
    refine .nil ?_
    show Ev _ _ _ _ _
    refine .cond rfl (fun hc25 => ?_) (fun hc25 => ?_)
    ·first | replace hc25 := of_decide_eq_true hc25 | replace hc25 := of_decide_eq_false hc25 | replace hc25 := eq_of_beq hc25 | replace hc25 := ne_of_beq_false hc25 | simp only [bne_iff_ne, ne_eq] at hc25 | simp only [bne_eq_false_iff_eq] at hc25
     refine .seq ?_
     refine .region ?_
     refine .q (op_assign rfl) trivial rfl ?_
     refine .nil ?_
     show Ev _ _ _ _ _
     refine .ret ?_
     show RetOk _ _ _ _ _ _ _
     exact ret1v rfl (.inl rfl) rfl (congrArg AV.bool (by first | exact (soft_bad (j := j) (by omega) (by first | exact sw_a (lt33.1 hg14) | exact sw_b hg20 | exact sw_c hc25)).symm | exact soft_ref1 (by omega) (by rwa [List.take_of_length_le (by omega)] at hq) | exact soft_ref0 (by omega))) trivial
    ·first | replace hc25 := of_decide_eq_true hc25 | replace hc25 := of_decide_eq_false hc25 | replace hc25 := eq_of_beq hc25 | replace hc25 := ne_of_beq_false hc25 | simp only [bne_iff_ne, ne_eq] at hc25 | simp only [bne_eq_false_iff_eq] at hc25
     refine .skip ?_
     show Ev _ _ _ _ _
     refine .region ?_
     refine .q (op_move rfl) trivial rfl ?_
     refine .q (op_addI rfl rfl ⟨by first | omega | (simp only [AV.len]; omega) | (simp only [AV.len, List.length_set]; omega) | assumption | (simp [AV.len]; done), by first | omega | (simp only [AV.len]; omega) | (simp only [AV.len, List.length_set]; omega) | assumption | (simp [AV.len]; done)⟩) trivial rfl ?_
     refine .q (op_assign rfl) trivial rfl ?_
     refine .nil ?_
     exact ⟨⟨j + 1, by omega, soft_step (by omega) hq (sw_ok (fun h => hg14 (lt33.2 h)) hg20 hc25)⟩, by (try dsimp only); omega, StLe.mk [] rfl rfl ⟨⟨_, rfl, by first | rfl | (simp only [AV.ren]; congr 1; omega), rfl⟩, ⟨_, rfl, by first | rfl | (simp only [AV.ren]; congr 1; omega), rfl⟩, trivial⟩ trivial⟩
 ·first | replace hc7 := of_decide_eq_true hc7 | replace hc7 := of_decide_eq_false hc7 | replace hc7 := eq_of_beq hc7 | replace hc7 := ne_of_beq_false hc7 | simp only [bne_iff_ne, ne_eq] at hc7 | simp only [bne_eq_false_iff_eq] at hc7
  refine .exit ?_
  show Ev _ _ _ _ _
  refine .seq ?_
  refine .region ?_
  refine .q (op_move rfl) trivial rfl ?_
  refine .q (op_len_str Tryd.underlying9 rfl) trivial rfl ?_
  refine .q (op_cmpI rfl rfl rfl) trivial rfl ?_
  refine .q (op_move rfl) trivial rfl ?_
  refine .split (fun hg29 => ?_) (fun hg29 => ?_)
  ·first | replace hg29 := of_decide_eq_true hg29 | replace hg29 := of_decide_eq_false hg29 | replace hg29 := eq_of_beq hg29 | replace hg29 := ne_of_beq_false hg29 | simp only [bne_iff_ne, ne_eq] at hg29 | simp only [bne_eq_false_iff_eq] at hg29
   refine .q (op_move rfl) ⟨_, rfl, rfl⟩ rfl ?_
   refine .q (op_len_str Tryd.underlying9 rfl) ⟨_, rfl, rfl⟩ rfl ?_
   refine .q (op_cmpI rfl rfl rfl) ⟨_, rfl, rfl⟩ rfl ?_
   refine .q (op_pick_true rfl rfl rfl) trivial rfl ?_
   refine .q (op_assign rfl) trivial rfl ?_
   refine .nil ?_
   show Ev _ _ _ _ _
   refine .ret ?_
   show RetOk _ _ _ _ _ _ _
   exact ret1v rfl (.inl rfl) rfl (congrArg AV.bool (by first | exact (soft_bad (j := j) (by omega) (by first | exact sw_a (lt33.1 hg14) | exact sw_b hg20 | exact sw_c hc25)).symm | exact soft_ref1 (by omega) (by rwa [List.take_of_length_le (by omega)] at hq) | exact soft_ref0 (by omega))) trivial
  ·first | replace hg29 := of_decide_eq_true hg29 | replace hg29 := of_decide_eq_false hg29 | replace hg29 := eq_of_beq hg29 | replace hg29 := ne_of_beq_false hg29 | simp only [bne_iff_ne, ne_eq] at hg29 | simp only [bne_eq_false_iff_eq] at hg29
   refine .no ⟨_, rfl, rfl⟩ rfl ?_
   refine .no ⟨_, rfl, rfl⟩ rfl ?_
   refine .no ⟨_, rfl, rfl⟩ rfl ?_
   refine .q (op_pick_false rfl rfl rfl) trivial rfl ?_
   refine .q (op_assign rfl) trivial rfl ?_
   refine .nil ?_
   show Ev _ _ _ _ _
   refine .ret ?_
   show RetOk _ _ _ _ _ _ _
   exact ret1v rfl (.inl rfl) rfl (congrArg AV.bool (by first | exact (soft_bad (j := j) (by omega) (by first | exact sw_a (lt33.1 hg14) | exact sw_b hg20 | exact sw_c hc25)).symm | exact soft_ref1 (by omega) (by rwa [List.take_of_length_le (by omega)] at hq) | exact soft_ref0 (by omega))) trivial
set_option maxRecDepth 100000 in
theorem rWord_ev (s : List UInt8) (hs : s.length ≤ 9000000000) : Meets Tryd.prog 34 [.str s] [] (.bool (softOk s)) [] := by
 refine meets_of_ev (nt := 5) Tryd.func34 rfl rfl (Nat.le_of_ble_eq_true rfl) ?_
 refine .seq ?_
 refine .region ?_
 refine .q (op_assign rfl) trivial rfl ?_
 refine .nil ?_
 show Ev _ _ _ _ _
 refine .seq ?_
 refine .region ?_
 refine .q (op_move rfl) trivial rfl ?_
 refine .q (op_call (U := []) [] [] (rword_ev s hs) Tryd.func70 (by kernel_rfl) rfl rfl rfl (⟨⟨_, rfl, rfl, rfl⟩, trivial⟩) (trivial) (trivial) (trivial) rfl) trivial rfl ?_
 refine .q (op_assign rfl) trivial rfl ?_
 refine .nil ?_
 show Ev _ _ _ _ _
 refine .ret ?_
 show RetOk _ _ _ _ _ _ _
 exact ret1v rfl (.inl rfl) rfl rfl trivial
theorem feedR_of {h k : HD} {s r : List UInt8} (hF : feedD h s = (k, r)) (he : k.e = 0) : feedR h s = r := by unfold feedR; rw [hF]; exact if_pos he
theorem feedR_bad {h k : HD} {s r : List UInt8} (hF : feedD h s = (k, r)) (he : k.e ≠ 0) : feedR h s = [] := by unfold feedR; rw [hF]; exact if_neg he
theorem awF : feedD (HD.mk false [] 0 [] 0) [83, 83, 72, 45, 50, 46, 48, 45, 120, 13, 10, 97, 98] = (⟨false, [], 0, ssh2 ++ [120], 0⟩, [97, 98]) := feed_line false (s := [120]) [97, 98] (by decide)
set_option maxRecDepth 100000 in
theorem awake11_ev (eo : Nat → Nat × Nat) : Meets Tryd.prog 26 [] [(0, some ⟨.agg [.err 225 (3) (offE eo (3))], errT, false⟩), (4, some ⟨.agg [.err 225 (4) (offE eo (4))], errT, false⟩), (11, some ⟨.agg [.err 225 (12) (offE eo (12))], errT, false⟩), (3, some ⟨.agg [.err 225 (1) (offE eo (1))], errT, false⟩)] (.bool true) [] := by
 refine meets_of_ev (nt := 41) Tryd.func26 rfl rfl (Nat.le_of_ble_eq_true rfl) ?_
 refine .seq ?_
 refine .region ?_
 refine .q (op_assign rfl) trivial rfl ?_
 refine .nil ?_
 show Ev _ _ _ _ _
 refine .seq ?_
 refine .region ?_
 refine .a (op_call (U := [(1000, some ⟨.agg [.bool ((HD.mk false [] 0 [] 0)).c, .nilsl, .i64 ((((HD.mk false [] 0 [] 0)).g : Nat) : Int), .str ((HD.mk false [] 0 [] 0)).v, .err 225 (((HD.mk false [] 0 [] 0)).e) (offE eo (((HD.mk false [] 0 [] 0)).e))], 115, true⟩)]) [] [(1000, 1000)] (hnew_ev false eo) Tryd.func27 (by kernel_rfl) rfl rfl rfl (⟨⟨_, rfl, rfl, rfl⟩, trivial⟩) (trivial) (⟨⟨1000, _, rfl, rfl, rfl, rfl, .inl rfl⟩, trivial⟩) (trivial) rfl) trivial rfl ?_
 refine .q (op_assign rfl) trivial rfl ?_
 refine .nil ?_
 show Ev _ _ _ _ _
 refine .seq ?_
 refine .seq ?_
 refine .region ?_
 refine .q (op_move rfl) trivial rfl ?_
 refine .q (op_eqPtrNil Tryd.underlying57 rfl rfl rfl) trivial rfl ?_
 refine .nil ?_
 show Ev _ _ _ _ _
 refine .cond_false rfl (rfl) ?_
 refine .skip ?_
 show Ev _ _ _ _ _
 refine .seq ?_
 refine .region ?_
 refine .q (op_move rfl) trivial rfl ?_
 refine .a (op_call (U := [(1000, some ⟨.agg [.bool ((feedD (HD.mk false [] 0 [] 0) [83, 83, 72, 45, 50, 46, 48, 45, 120, 13, 10, 97, 98]).1).c, .nilsl, .i64 ((((feedD (HD.mk false [] 0 [] 0) [83, 83, 72, 45, 50, 46, 48, 45, 120, 13, 10, 97, 98]).1).g : Nat) : Int), .str ((feedD (HD.mk false [] 0 [] 0) [83, 83, 72, 45, 50, 46, 48, 45, 120, 13, 10, 97, 98]).1).v, .err 225 (((feedD (HD.mk false [] 0 [] 0) [83, 83, 72, 45, 50, 46, 48, 45, 120, 13, 10, 97, 98]).1).e) (offE eo (((feedD (HD.mk false [] 0 [] 0) [83, 83, 72, 45, 50, 46, 48, 45, 120, 13, 10, 97, 98]).1).e))], 115, true⟩)]) [(500, 1000)] [] (feed_nn (HD.mk false [] 0 [] 0) [83, 83, 72, 45, 50, 46, 48, 45, 120, 13, 10, 97, 98] (fine0 _) rfl (by decide) (by rw [awF]) eo) Tryd.func31 (by kernel_rfl) rfl rfl rfl (⟨⟨_, rfl, rfl, rfl⟩, ⟨_, rfl, rfl, rfl⟩, trivial⟩) (⟨⟨_, _, rfl, rfl, rfl, rfl, id, rfl⟩, ⟨_, _, rfl, rfl, rfl, rfl, (fun h => by cases h), rfl⟩, ⟨_, _, rfl, rfl, rfl, rfl, (fun h => by cases h), rfl⟩, ⟨_, _, rfl, rfl, rfl, rfl, (fun h => by cases h), rfl⟩, trivial⟩) (⟨⟨500, _, rfl, rfl, rfl, rfl, .inr ⟨rfl, _, rfl, rfl⟩⟩, trivial⟩) (⟨(fun _ => ⟨1000, _, rfl, rfl⟩), (fun h => by cases h), (fun h => by cases h), (fun h => by cases h), trivial⟩) rfl) trivial rfl ?_
 refine .as (.tup [.str [97, 98], .err 225 (0) (offE eo (0))]) (by show AV.tup [.str (feedR _ _), AV.err 225 ((feedD (HD.mk false [] 0 [] 0) [83, 83, 72, 45, 50, 46, 48, 45, 120, 13, 10, 97, 98]).1.e) (offE eo ((feedD (HD.mk false [] 0 [] 0) [83, 83, 72, 45, 50, 46, 48, 45, 120, 13, 10, 97, 98]).1.e))] = _; rw [feedR_of awF rfl, awF]) ?_
 refine .q (op_move rfl) trivial rfl ?_
 refine .q (op_extract rfl rfl) trivial rfl ?_
 refine .q (op_extract rfl rfl) trivial rfl ?_
 refine .q (op_assign rfl) trivial rfl ?_
 refine .q (op_assign rfl) trivial rfl ?_
 refine .nil ?_
 show Ev _ _ _ _ _
 refine .seq ?_
 refine .region ?_
 refine .q (op_call (U := []) [] [] (hline_y [120] (by decide) (by decide) eo) Tryd.func33 (by kernel_rfl) rfl rfl rfl (⟨⟨_, rfl, rfl, rfl⟩, trivial⟩) (⟨⟨_, _, rfl, rfl, rfl, rfl, (fun h => by cases h), rfl⟩, trivial⟩) (trivial) (⟨(fun h => by cases h), trivial⟩) rfl) trivial rfl ?_
 refine .q (op_move rfl) trivial rfl ?_
 refine .q (op_extract rfl rfl) trivial rfl ?_
 refine .q (op_extract rfl rfl) trivial rfl ?_
 refine .q (op_assign rfl) trivial rfl ?_
 refine .q (op_assign rfl) trivial rfl ?_
 refine .nil ?_
 show Ev _ _ _ _ _
 refine .seq ?_
 refine .region ?_
 refine .q (op_move rfl) trivial rfl ?_
 refine .q (op_eqS rfl rfl rfl) trivial rfl ?_
 refine .q (op_move rfl) trivial rfl ?_
 refine .know (b' := true) (rfl) ?_
 refine .q (op_move rfl) ⟨_, rfl, rfl⟩ rfl ?_
 refine .q (op_eqErrNil (e := 0) Tryd.underlying26 rfl rfl) ⟨_, rfl, rfl⟩ rfl ?_
 refine .q (op_pick_true rfl rfl rfl) trivial rfl ?_
 refine .q (op_move rfl) trivial rfl ?_
 refine .know (b' := true) (rfl) ?_
 refine .q (op_move rfl) ⟨_, rfl, rfl⟩ rfl ?_
 refine .q (op_call (U := []) [(500, 1000)] [] (done_n (feedD (HD.mk false [] 0 [] 0) [83, 83, 72, 45, 50, 46, 48, 45, 120, 13, 10, 97, 98]).1 eo) Tryd.func30 (by kernel_rfl) rfl rfl rfl (⟨⟨_, rfl, rfl, rfl⟩, trivial⟩) (⟨⟨_, _, rfl, rfl, rfl, rfl, (fun h => by cases h), rfl⟩, trivial⟩) (trivial) (⟨(fun h => by cases h), trivial⟩) rfl) ⟨_, rfl, rfl⟩ rfl ?_
 refine .as (.bool true) (by show AV.bool _ = _; rw [awF]; rfl) ?_
 refine .q (op_pick_true rfl rfl rfl) trivial rfl ?_
 refine .q (op_move rfl) trivial rfl ?_
 refine .know (b' := true) (rfl) ?_
 refine .q (op_move rfl) ⟨_, rfl, rfl⟩ rfl ?_
 refine .q (op_call (U := []) [(500, 1000)] [] (peer_n (feedD (HD.mk false [] 0 [] 0) [83, 83, 72, 45, 50, 46, 48, 45, 120, 13, 10, 97, 98]).1 eo) Tryd.func32 (by kernel_rfl) rfl rfl rfl (⟨⟨_, rfl, rfl, rfl⟩, trivial⟩) (⟨⟨_, _, rfl, rfl, rfl, rfl, (fun h => by cases h), rfl⟩, trivial⟩) (trivial) (⟨(fun h => by cases h), trivial⟩) rfl) ⟨_, rfl, rfl⟩ rfl ?_
 refine .as (.str (ssh2 ++ [120])) (by show AV.str _ = _; rw [awF]) ?_
 refine .q (op_eqS rfl rfl rfl) ⟨_, rfl, rfl⟩ rfl ?_
 refine .q (op_pick_true rfl rfl rfl) trivial rfl ?_
 refine .q (op_move rfl) trivial rfl ?_
 refine .know (b' := true) (rfl) ?_
 refine .q (op_move rfl) ⟨_, rfl, rfl⟩ rfl ?_
 refine .q (op_eqS rfl rfl rfl) ⟨_, rfl, rfl⟩ rfl ?_
 refine .q (op_pick_true rfl rfl rfl) trivial rfl ?_
 refine .q (op_move rfl) trivial rfl ?_
 refine .know (b' := true) (rfl) ?_
 refine .q (op_move rfl) ⟨_, rfl, rfl⟩ rfl ?_
 refine .q (op_eqErrNil (e := 0) Tryd.underlying26 rfl rfl) ⟨_, rfl, rfl⟩ rfl ?_
 refine .q (op_pick_true rfl rfl rfl) trivial rfl ?_
 refine .q (op_assign rfl) trivial rfl ?_
 refine .nil ?_
 show Ev _ _ _ _ _
 refine .ret ?_
 show RetOk _ _ _ _ _ _ _
 exact ret1v rfl (.inl rfl) rfl rfl trivial
set_option maxRecDepth 100000 in
theorem helloLines_y (eo : Nat → Nat × Nat) (_hd : ∀ i j, i < 20 → j < 20 → i ≠ j → eo i ≠ eo j) (s : List UInt8) (hs : s.length ≤ 9223372036854775807) (h : softOk (s.take 80) = true) : Meets Tryd.prog 8 [.str s] [(3, some ⟨.agg [.err 225 (1) (offE eo (1))], errT, false⟩), (1, some ⟨.agg [.err 225 (2) (offE eo (2))], errT, false⟩), (0, some ⟨.agg [.err 225 (3) (offE eo (3))], errT, false⟩), (4, some ⟨.agg [.err 225 (4) (offE eo (4))], errT, false⟩), (2, some ⟨.agg [.err 225 (5) (offE eo (5))], errT, false⟩), (5, some ⟨.agg [.err 225 (6) (offE eo (6))], errT, false⟩), (6, some ⟨.agg [.err 225 (7) (offE eo (7))], errT, false⟩), (7, some ⟨.agg [.err 225 (8) (offE eo (8))], errT, false⟩), (8, some ⟨.agg [.err 225 (9) (offE eo (9))], errT, false⟩), (9, some ⟨.agg [.err 225 (10) (offE eo (10))], errT, false⟩), (10, some ⟨.agg [.err 225 (11) (offE eo (11))], errT, false⟩), (11, some ⟨.agg [.err 225 (12) (offE eo (12))], errT, false⟩), (12, some ⟨.agg [.err 225 (13) (offE eo (13))], errT, false⟩), (13, some ⟨.agg [.err 225 (14) (offE eo (14))], errT, false⟩), (14, some ⟨.agg [.err 225 (15) (offE eo (15))], errT, false⟩), (15, some ⟨.agg [.err 225 (16) (offE eo (16))], errT, false⟩), (16, some ⟨.agg [.err 225 (17) (offE eo (17))], errT, false⟩), (17, some ⟨.agg [.err 225 (18) (offE eo (18))], errT, false⟩), (18, some ⟨.agg [.err 225 (19) (offE eo (19))], errT, false⟩), (19, some ⟨.agg [.err 225 (20) (offE eo (20))], errT, false⟩), (401, some ⟨.agg [], errT, false⟩), (402, some ⟨.agg [], errT, false⟩), (403, some ⟨.agg [], errT, false⟩), (404, some ⟨.agg [], errT, false⟩), (405, some ⟨.agg [], errT, false⟩), (406, some ⟨.agg [], errT, false⟩), (407, some ⟨.agg [], errT, false⟩), (408, some ⟨.agg [], errT, false⟩), (409, some ⟨.agg [], errT, false⟩), (410, some ⟨.agg [], errT, false⟩), (411, some ⟨.agg [], errT, false⟩), (412, some ⟨.agg [], errT, false⟩), (413, some ⟨.agg [], errT, false⟩), (414, some ⟨.agg [], errT, false⟩), (415, some ⟨.agg [], errT, false⟩), (416, some ⟨.agg [], errT, false⟩), (417, some ⟨.agg [], errT, false⟩), (418, some ⟨.agg [], errT, false⟩), (419, some ⟨.agg [], errT, false⟩), (420, some ⟨.agg [], errT, false⟩)] (.bool true) [] := by
 have hF := feed_line false (s := (s.take 80)) [] h
 refine meets_of_ev (nt := 58) Tryd.func8 rfl rfl (Nat.le_of_ble_eq_true rfl) ?_
 refine .seq ?_
 refine .region ?_
 refine .q (op_assign rfl) trivial rfl ?_
 refine .nil ?_
 show Ev _ _ _ _ _
 refine .seq ?_
 refine .seq ?_
 refine .region ?_
 refine .q (op_call (U := []) [] [] (awake11_ev eo) Tryd.func26 (by kernel_rfl) rfl rfl rfl (trivial) (⟨⟨_, _, rfl, rfl, rfl, rfl, (fun h => by cases h), rfl⟩, ⟨_, _, rfl, rfl, rfl, rfl, (fun h => by cases h), rfl⟩, ⟨_, _, rfl, rfl, rfl, rfl, (fun h => by cases h), rfl⟩, ⟨_, _, rfl, rfl, rfl, rfl, (fun h => by cases h), rfl⟩, trivial⟩) (trivial) (⟨(fun h => by cases h), (fun h => by cases h), (fun h => by cases h), (fun h => by cases h), trivial⟩) rfl) trivial rfl ?_
 refine .q (op_notB rfl) trivial rfl ?_
 refine .nil ?_
 show Ev _ _ _ _ _
 refine .cond_false rfl (rfl) ?_
 refine .skip ?_
 show Ev _ _ _ _ _
 refine .seq ?_
 refine .region ?_
 refine .q (op_move rfl) trivial rfl ?_
 refine .q (op_call (U := []) [] [] (cut_ev s 80 hs) Tryd.func11 (by kernel_rfl) rfl rfl rfl (⟨⟨_, rfl, rfl, rfl⟩, ⟨_, rfl, rfl, rfl⟩, trivial⟩) (trivial) (trivial) (trivial) rfl) trivial rfl ?_
 refine .q (op_assign rfl) trivial rfl ?_
 refine .nil ?_
 show Ev _ _ _ _ _
 refine .seq ?_
 refine .region ?_
 refine .q (op_move rfl) trivial rfl ?_
 refine .q (op_call (U := []) [] [] (hline_y (s.take 80) (by simp; omega) h eo) Tryd.func33 (by kernel_rfl) rfl rfl rfl (⟨⟨_, rfl, rfl, rfl⟩, trivial⟩) (⟨⟨_, _, rfl, rfl, rfl, rfl, (fun h => by cases h), rfl⟩, trivial⟩) (trivial) (⟨(fun h => by cases h), trivial⟩) rfl) trivial rfl ?_
 refine .q (op_move rfl) trivial rfl ?_
 refine .q (op_extract rfl rfl) trivial rfl ?_
 refine .q (op_extract rfl rfl) trivial rfl ?_
 refine .q (op_assign rfl) trivial rfl ?_
 refine .q (op_assign rfl) trivial rfl ?_
 refine .nil ?_
 show Ev _ _ _ _ _
 refine .seq ?_
 refine .seq ?_
 refine .region ?_
 refine .q (op_move rfl) trivial rfl ?_
 refine .q (op_call (U := []) [] [] (rWord_ev (s.take 80) (by simp; omega)) Tryd.func34 (by kernel_rfl) rfl rfl rfl (⟨⟨_, rfl, rfl, rfl⟩, trivial⟩) (trivial) (trivial) (trivial) rfl) trivial rfl ?_
 refine .q (op_notB rfl) trivial rfl ?_
 refine .nil ?_
 show Ev _ _ _ _ _
 refine .cond_false rfl (by rw [h]; rfl) ?_
 refine .skip ?_
 show Ev _ _ _ _ _
 refine .seq ?_
 refine .region ?_
 refine .a (op_call (U := [(1000, some ⟨.agg [.bool ((HD.mk false [] 0 [] 0)).c, .nilsl, .i64 ((((HD.mk false [] 0 [] 0)).g : Nat) : Int), .str ((HD.mk false [] 0 [] 0)).v, .err 225 (((HD.mk false [] 0 [] 0)).e) (offE eo (((HD.mk false [] 0 [] 0)).e))], 115, true⟩)]) [] [(1000, 1000)] (hnew_ev false eo) Tryd.func27 (by kernel_rfl) rfl rfl rfl (⟨⟨_, rfl, rfl, rfl⟩, trivial⟩) (trivial) (⟨⟨1000, _, rfl, rfl, rfl, rfl, .inl rfl⟩, trivial⟩) (trivial) rfl) trivial rfl ?_
 refine .q (op_assign rfl) trivial rfl ?_
 refine .nil ?_
 show Ev _ _ _ _ _
 refine .seq ?_
 refine .region ?_
 refine .q (op_move rfl) trivial rfl ?_
 refine .q (op_move rfl) trivial rfl ?_
 refine .a (op_call (U := [(1000, some ⟨.agg [.bool ((feedD (HD.mk false [] 0 [] 0) (ssh2 ++ (s.take 80) ++ [13, 10])).1).c, .nilsl, .i64 ((((feedD (HD.mk false [] 0 [] 0) (ssh2 ++ (s.take 80) ++ [13, 10])).1).g : Nat) : Int), .str ((feedD (HD.mk false [] 0 [] 0) (ssh2 ++ (s.take 80) ++ [13, 10])).1).v, .err 225 (((feedD (HD.mk false [] 0 [] 0) (ssh2 ++ (s.take 80) ++ [13, 10])).1).e) (offE eo (((feedD (HD.mk false [] 0 [] 0) (ssh2 ++ (s.take 80) ++ [13, 10])).1).e))], 115, true⟩)]) [(500, 1000)] [] (feed_nn (HD.mk false [] 0 [] 0) (ssh2 ++ (s.take 80) ++ [13, 10]) (fine0 _) rfl (by simp [ssh2]; omega) (by rw [hF]) eo) Tryd.func31 (by kernel_rfl) rfl rfl rfl (⟨⟨_, rfl, rfl, rfl⟩, ⟨_, rfl, rfl, rfl⟩, trivial⟩) (⟨⟨_, _, rfl, rfl, rfl, rfl, id, rfl⟩, ⟨_, _, rfl, rfl, rfl, rfl, (fun h => by cases h), rfl⟩, ⟨_, _, rfl, rfl, rfl, rfl, (fun h => by cases h), rfl⟩, ⟨_, _, rfl, rfl, rfl, rfl, (fun h => by cases h), rfl⟩, trivial⟩) (⟨⟨500, _, rfl, rfl, rfl, rfl, .inr ⟨rfl, _, rfl, rfl⟩⟩, trivial⟩) (⟨(fun _ => ⟨1000, _, rfl, rfl⟩), (fun h => by cases h), (fun h => by cases h), (fun h => by cases h), trivial⟩) rfl) trivial rfl ?_
 refine .as (.tup [.str [], .err 225 (0) (offE eo (0))]) (by show AV.tup [.str (feedR _ _), AV.err 225 ((feedD (HD.mk false [] 0 [] 0) (ssh2 ++ (s.take 80) ++ [13, 10])).1.e) (offE eo ((feedD (HD.mk false [] 0 [] 0) (ssh2 ++ (s.take 80) ++ [13, 10])).1.e))] = _; rw [feedR_of hF rfl, hF]) ?_
 refine .q (op_move rfl) trivial rfl ?_
 refine .q (op_extract rfl rfl) trivial rfl ?_
 refine .q (op_extract rfl rfl) trivial rfl ?_
 refine .q (op_assign rfl) trivial rfl ?_
 refine .q (op_assign rfl) trivial rfl ?_
 refine .nil ?_
 show Ev _ _ _ _ _
 refine .seq ?_
 refine .region ?_
 refine .q (op_move rfl) trivial rfl ?_
 refine .q (op_eqErrNil (e := 0) Tryd.underlying26 rfl rfl) trivial rfl ?_
 refine .q (op_move rfl) trivial rfl ?_
 refine .know (b' := true) (rfl) ?_
 refine .q (op_move rfl) ⟨_, rfl, rfl⟩ rfl ?_
 refine .q (op_move rfl) ⟨_, rfl, rfl⟩ rfl ?_
 refine .q (op_addS rfl rfl (by simp; omega)) ⟨_, rfl, rfl⟩ rfl ?_
 refine .q (op_addS rfl rfl (by simp; omega)) ⟨_, rfl, rfl⟩ rfl ?_
 refine .q (op_eqS rfl rfl rfl) ⟨_, rfl, rfl⟩ rfl ?_
 refine .q (op_pick_true rfl rfl rfl) trivial rfl ?_
 refine .q (op_move rfl) trivial rfl ?_
 refine .know (b' := true) (beq_self_eq_true _) ?_
 refine .q (op_move rfl) ⟨_, rfl, rfl⟩ rfl ?_
 refine .q (op_eqS rfl rfl rfl) ⟨_, rfl, rfl⟩ rfl ?_
 refine .q (op_pick_true rfl rfl rfl) trivial rfl ?_
 refine .q (op_move rfl) trivial rfl ?_
 refine .know (b' := true) (rfl) ?_
 refine .q (op_move rfl) ⟨_, rfl, rfl⟩ rfl ?_
 refine .q (op_eqErrNil (e := 0) Tryd.underlying26 rfl rfl) ⟨_, rfl, rfl⟩ rfl ?_
 refine .q (op_pick_true rfl rfl rfl) trivial rfl ?_
 refine .q (op_move rfl) trivial rfl ?_
 refine .know (b' := true) (rfl) ?_
 refine .q (op_move rfl) ⟨_, rfl, rfl⟩ rfl ?_
 refine .q (op_call (U := []) [(500, 1000)] [] (peer_n (feedD (HD.mk false [] 0 [] 0) (ssh2 ++ (s.take 80) ++ [13, 10])).1 eo) Tryd.func32 (by kernel_rfl) rfl rfl rfl (⟨⟨_, rfl, rfl, rfl⟩, trivial⟩) (⟨⟨_, _, rfl, rfl, rfl, rfl, (fun h => by cases h), rfl⟩, trivial⟩) (trivial) (⟨(fun h => by cases h), trivial⟩) rfl) ⟨_, rfl, rfl⟩ rfl ?_
 refine .as (.str (ssh2 ++ (s.take 80))) (by show AV.str _ = _; rw [hF]) ?_
 refine .q (op_addS rfl rfl (by simp [ssh2]; omega)) ⟨_, rfl, rfl⟩ rfl ?_
 refine .q (op_move rfl) ⟨_, rfl, rfl⟩ rfl ?_
 refine .q (op_eqS rfl rfl rfl) ⟨_, rfl, rfl⟩ rfl ?_
 refine .q (op_pick_true rfl rfl rfl) trivial rfl ?_
 refine .q (op_assign rfl) trivial rfl ?_
 refine .nil ?_
 show Ev _ _ _ _ _
 refine .ret ?_
 show RetOk _ _ _ _ _ _ _
 exact ret1v rfl (.inl rfl) rfl (congrArg AV.bool (beq_self_eq_true _)) trivial
set_option maxRecDepth 100000 in
theorem helloLines_n (eo : Nat → Nat × Nat) (hd : ∀ i j, i < 20 → j < 20 → i ≠ j → eo i ≠ eo j) (s : List UInt8) (hs : s.length ≤ 9223372036854775807) (h : softOk (s.take 80) = false) : Meets Tryd.prog 8 [.str s] [(3, some ⟨.agg [.err 225 (1) (offE eo (1))], errT, false⟩), (1, some ⟨.agg [.err 225 (2) (offE eo (2))], errT, false⟩), (0, some ⟨.agg [.err 225 (3) (offE eo (3))], errT, false⟩), (4, some ⟨.agg [.err 225 (4) (offE eo (4))], errT, false⟩), (2, some ⟨.agg [.err 225 (5) (offE eo (5))], errT, false⟩), (5, some ⟨.agg [.err 225 (6) (offE eo (6))], errT, false⟩), (6, some ⟨.agg [.err 225 (7) (offE eo (7))], errT, false⟩), (7, some ⟨.agg [.err 225 (8) (offE eo (8))], errT, false⟩), (8, some ⟨.agg [.err 225 (9) (offE eo (9))], errT, false⟩), (9, some ⟨.agg [.err 225 (10) (offE eo (10))], errT, false⟩), (10, some ⟨.agg [.err 225 (11) (offE eo (11))], errT, false⟩), (11, some ⟨.agg [.err 225 (12) (offE eo (12))], errT, false⟩), (12, some ⟨.agg [.err 225 (13) (offE eo (13))], errT, false⟩), (13, some ⟨.agg [.err 225 (14) (offE eo (14))], errT, false⟩), (14, some ⟨.agg [.err 225 (15) (offE eo (15))], errT, false⟩), (15, some ⟨.agg [.err 225 (16) (offE eo (16))], errT, false⟩), (16, some ⟨.agg [.err 225 (17) (offE eo (17))], errT, false⟩), (17, some ⟨.agg [.err 225 (18) (offE eo (18))], errT, false⟩), (18, some ⟨.agg [.err 225 (19) (offE eo (19))], errT, false⟩), (19, some ⟨.agg [.err 225 (20) (offE eo (20))], errT, false⟩), (401, some ⟨.agg [], errT, false⟩), (402, some ⟨.agg [], errT, false⟩), (403, some ⟨.agg [], errT, false⟩), (404, some ⟨.agg [], errT, false⟩), (405, some ⟨.agg [], errT, false⟩), (406, some ⟨.agg [], errT, false⟩), (407, some ⟨.agg [], errT, false⟩), (408, some ⟨.agg [], errT, false⟩), (409, some ⟨.agg [], errT, false⟩), (410, some ⟨.agg [], errT, false⟩), (411, some ⟨.agg [], errT, false⟩), (412, some ⟨.agg [], errT, false⟩), (413, some ⟨.agg [], errT, false⟩), (414, some ⟨.agg [], errT, false⟩), (415, some ⟨.agg [], errT, false⟩), (416, some ⟨.agg [], errT, false⟩), (417, some ⟨.agg [], errT, false⟩), (418, some ⟨.agg [], errT, false⟩), (419, some ⟨.agg [], errT, false⟩), (420, some ⟨.agg [], errT, false⟩)] (.bool true) [] := by
 refine meets_of_ev (nt := 58) Tryd.func8 rfl rfl (Nat.le_of_ble_eq_true rfl) ?_
 refine .seq ?_
 refine .region ?_
 refine .q (op_assign rfl) trivial rfl ?_
 refine .nil ?_
 show Ev _ _ _ _ _
 refine .seq ?_
 refine .seq ?_
 refine .region ?_
 refine .q (op_call (U := []) [] [] (awake11_ev eo) Tryd.func26 (by kernel_rfl) rfl rfl rfl (trivial) (⟨⟨_, _, rfl, rfl, rfl, rfl, (fun h => by cases h), rfl⟩, ⟨_, _, rfl, rfl, rfl, rfl, (fun h => by cases h), rfl⟩, ⟨_, _, rfl, rfl, rfl, rfl, (fun h => by cases h), rfl⟩, ⟨_, _, rfl, rfl, rfl, rfl, (fun h => by cases h), rfl⟩, trivial⟩) (trivial) (⟨(fun h => by cases h), (fun h => by cases h), (fun h => by cases h), (fun h => by cases h), trivial⟩) rfl) trivial rfl ?_
 refine .q (op_notB rfl) trivial rfl ?_
 refine .nil ?_
 show Ev _ _ _ _ _
 refine .cond_false rfl (rfl) ?_
 refine .skip ?_
 show Ev _ _ _ _ _
 refine .seq ?_
 refine .region ?_
 refine .q (op_move rfl) trivial rfl ?_
 refine .q (op_call (U := []) [] [] (cut_ev s 80 hs) Tryd.func11 (by kernel_rfl) rfl rfl rfl (⟨⟨_, rfl, rfl, rfl⟩, ⟨_, rfl, rfl, rfl⟩, trivial⟩) (trivial) (trivial) (trivial) rfl) trivial rfl ?_
 refine .q (op_assign rfl) trivial rfl ?_
 refine .nil ?_
 show Ev _ _ _ _ _
 refine .seq ?_
 refine .region ?_
 refine .q (op_move rfl) trivial rfl ?_
 refine .q (op_call (U := []) [] [] (hline_n (s.take 80) (by simp; omega) h eo) Tryd.func33 (by kernel_rfl) rfl rfl rfl (⟨⟨_, rfl, rfl, rfl⟩, trivial⟩) (⟨⟨_, _, rfl, rfl, rfl, rfl, (fun h => by cases h), rfl⟩, trivial⟩) (trivial) (⟨(fun h => by cases h), trivial⟩) rfl) trivial rfl ?_
 refine .q (op_move rfl) trivial rfl ?_
 refine .q (op_extract rfl rfl) trivial rfl ?_
 refine .q (op_extract rfl rfl) trivial rfl ?_
 refine .q (op_assign rfl) trivial rfl ?_
 refine .q (op_assign rfl) trivial rfl ?_
 refine .nil ?_
 show Ev _ _ _ _ _
 refine .seq ?_
 refine .seq ?_
 refine .region ?_
 refine .q (op_move rfl) trivial rfl ?_
 refine .q (op_call (U := []) [] [] (rWord_ev (s.take 80) (by simp; omega)) Tryd.func34 (by kernel_rfl) rfl rfl rfl (⟨⟨_, rfl, rfl, rfl⟩, trivial⟩) (trivial) (trivial) (trivial) rfl) trivial rfl ?_
 refine .q (op_notB rfl) trivial rfl ?_
 refine .nil ?_
 show Ev _ _ _ _ _
 refine .cond_true rfl (by rw [h]; rfl) ?_
 refine .seq ?_
 refine .region ?_
 refine .q (op_move rfl) trivial rfl ?_
 refine .q (op_eqS rfl rfl rfl) trivial rfl ?_
 refine .q (op_move rfl) trivial rfl ?_
 refine .know (b' := true) (rfl) ?_
 refine .q (op_move rfl) ⟨_, rfl, rfl⟩ rfl ?_
 refine .q (op_call (U := []) [] [] (code_1 eo hd) Tryd.func14 (by kernel_rfl) rfl rfl rfl (⟨⟨_, rfl, rfl, rfl⟩, trivial⟩) (⟨⟨_, _, rfl, rfl, rfl, rfl, (fun h => by cases h), rfl⟩, ⟨_, _, rfl, rfl, rfl, rfl, (fun h => by cases h), rfl⟩, ⟨_, _, rfl, rfl, rfl, rfl, (fun h => by cases h), rfl⟩, ⟨_, _, rfl, rfl, rfl, rfl, (fun h => by cases h), rfl⟩, ⟨_, _, rfl, rfl, rfl, rfl, (fun h => by cases h), rfl⟩, ⟨_, _, rfl, rfl, rfl, rfl, (fun h => by cases h), rfl⟩, ⟨_, _, rfl, rfl, rfl, rfl, (fun h => by cases h), rfl⟩, ⟨_, _, rfl, rfl, rfl, rfl, (fun h => by cases h), rfl⟩, ⟨_, _, rfl, rfl, rfl, rfl, (fun h => by cases h), rfl⟩, ⟨_, _, rfl, rfl, rfl, rfl, (fun h => by cases h), rfl⟩, ⟨_, _, rfl, rfl, rfl, rfl, (fun h => by cases h), rfl⟩, ⟨_, _, rfl, rfl, rfl, rfl, (fun h => by cases h), rfl⟩, ⟨_, _, rfl, rfl, rfl, rfl, (fun h => by cases h), rfl⟩, ⟨_, _, rfl, rfl, rfl, rfl, (fun h => by cases h), rfl⟩, ⟨_, _, rfl, rfl, rfl, rfl, (fun h => by cases h), rfl⟩, ⟨_, _, rfl, rfl, rfl, rfl, (fun h => by cases h), rfl⟩, ⟨_, _, rfl, rfl, rfl, rfl, (fun h => by cases h), rfl⟩, ⟨_, _, rfl, rfl, rfl, rfl, (fun h => by cases h), rfl⟩, ⟨_, _, rfl, rfl, rfl, rfl, (fun h => by cases h), rfl⟩, ⟨_, _, rfl, rfl, rfl, rfl, (fun h => by cases h), rfl⟩, ⟨_, _, rfl, rfl, rfl, rfl, (fun h => by cases h), rfl⟩, ⟨_, _, rfl, rfl, rfl, rfl, (fun h => by cases h), rfl⟩, ⟨_, _, rfl, rfl, rfl, rfl, (fun h => by cases h), rfl⟩, ⟨_, _, rfl, rfl, rfl, rfl, (fun h => by cases h), rfl⟩, ⟨_, _, rfl, rfl, rfl, rfl, (fun h => by cases h), rfl⟩, ⟨_, _, rfl, rfl, rfl, rfl, (fun h => by cases h), rfl⟩, ⟨_, _, rfl, rfl, rfl, rfl, (fun h => by cases h), rfl⟩, ⟨_, _, rfl, rfl, rfl, rfl, (fun h => by cases h), rfl⟩, ⟨_, _, rfl, rfl, rfl, rfl, (fun h => by cases h), rfl⟩, ⟨_, _, rfl, rfl, rfl, rfl, (fun h => by cases h), rfl⟩, ⟨_, _, rfl, rfl, rfl, rfl, (fun h => by cases h), rfl⟩, ⟨_, _, rfl, rfl, rfl, rfl, (fun h => by cases h), rfl⟩, ⟨_, _, rfl, rfl, rfl, rfl, (fun h => by cases h), rfl⟩, ⟨_, _, rfl, rfl, rfl, rfl, (fun h => by cases h), rfl⟩, ⟨_, _, rfl, rfl, rfl, rfl, (fun h => by cases h), rfl⟩, ⟨_, _, rfl, rfl, rfl, rfl, (fun h => by cases h), rfl⟩, ⟨_, _, rfl, rfl, rfl, rfl, (fun h => by cases h), rfl⟩, ⟨_, _, rfl, rfl, rfl, rfl, (fun h => by cases h), rfl⟩, ⟨_, _, rfl, rfl, rfl, rfl, (fun h => by cases h), rfl⟩, ⟨_, _, rfl, rfl, rfl, rfl, (fun h => by cases h), rfl⟩, trivial⟩) (trivial) (⟨(fun h => by cases h), (fun h => by cases h), (fun h => by cases h), (fun h => by cases h), (fun h => by cases h), (fun h => by cases h), (fun h => by cases h), (fun h => by cases h), (fun h => by cases h), (fun h => by cases h), (fun h => by cases h), (fun h => by cases h), (fun h => by cases h), (fun h => by cases h), (fun h => by cases h), (fun h => by cases h), (fun h => by cases h), (fun h => by cases h), (fun h => by cases h), (fun h => by cases h), (fun h => by cases h), (fun h => by cases h), (fun h => by cases h), (fun h => by cases h), (fun h => by cases h), (fun h => by cases h), (fun h => by cases h), (fun h => by cases h), (fun h => by cases h), (fun h => by cases h), (fun h => by cases h), (fun h => by cases h), (fun h => by cases h), (fun h => by cases h), (fun h => by cases h), (fun h => by cases h), (fun h => by cases h), (fun h => by cases h), (fun h => by cases h), (fun h => by cases h), trivial⟩) rfl) ⟨_, rfl, rfl⟩ rfl ?_
 refine .q (op_cmpI rfl rfl rfl) ⟨_, rfl, rfl⟩ rfl ?_
 refine .q (op_pick_true rfl rfl rfl) trivial rfl ?_
 refine .q (op_assign rfl) trivial rfl ?_
 refine .nil ?_
 show Ev _ _ _ _ _
 refine .ret ?_
 show RetOk _ _ _ _ _ _ _
 exact ret1v rfl (.inl rfl) rfl rfl trivial
theorem helloLines_ev (eo : Nat → Nat × Nat) (hd : ∀ i j, i < 20 → j < 20 → i ≠ j → eo i ≠ eo j) (s : List UInt8) (hs : s.length ≤ 9223372036854775807) : Meets Tryd.prog 8 [.str s] [(3, some ⟨.agg [.err 225 (1) (offE eo (1))], errT, false⟩), (1, some ⟨.agg [.err 225 (2) (offE eo (2))], errT, false⟩), (0, some ⟨.agg [.err 225 (3) (offE eo (3))], errT, false⟩), (4, some ⟨.agg [.err 225 (4) (offE eo (4))], errT, false⟩), (2, some ⟨.agg [.err 225 (5) (offE eo (5))], errT, false⟩), (5, some ⟨.agg [.err 225 (6) (offE eo (6))], errT, false⟩), (6, some ⟨.agg [.err 225 (7) (offE eo (7))], errT, false⟩), (7, some ⟨.agg [.err 225 (8) (offE eo (8))], errT, false⟩), (8, some ⟨.agg [.err 225 (9) (offE eo (9))], errT, false⟩), (9, some ⟨.agg [.err 225 (10) (offE eo (10))], errT, false⟩), (10, some ⟨.agg [.err 225 (11) (offE eo (11))], errT, false⟩), (11, some ⟨.agg [.err 225 (12) (offE eo (12))], errT, false⟩), (12, some ⟨.agg [.err 225 (13) (offE eo (13))], errT, false⟩), (13, some ⟨.agg [.err 225 (14) (offE eo (14))], errT, false⟩), (14, some ⟨.agg [.err 225 (15) (offE eo (15))], errT, false⟩), (15, some ⟨.agg [.err 225 (16) (offE eo (16))], errT, false⟩), (16, some ⟨.agg [.err 225 (17) (offE eo (17))], errT, false⟩), (17, some ⟨.agg [.err 225 (18) (offE eo (18))], errT, false⟩), (18, some ⟨.agg [.err 225 (19) (offE eo (19))], errT, false⟩), (19, some ⟨.agg [.err 225 (20) (offE eo (20))], errT, false⟩), (401, some ⟨.agg [], errT, false⟩), (402, some ⟨.agg [], errT, false⟩), (403, some ⟨.agg [], errT, false⟩), (404, some ⟨.agg [], errT, false⟩), (405, some ⟨.agg [], errT, false⟩), (406, some ⟨.agg [], errT, false⟩), (407, some ⟨.agg [], errT, false⟩), (408, some ⟨.agg [], errT, false⟩), (409, some ⟨.agg [], errT, false⟩), (410, some ⟨.agg [], errT, false⟩), (411, some ⟨.agg [], errT, false⟩), (412, some ⟨.agg [], errT, false⟩), (413, some ⟨.agg [], errT, false⟩), (414, some ⟨.agg [], errT, false⟩), (415, some ⟨.agg [], errT, false⟩), (416, some ⟨.agg [], errT, false⟩), (417, some ⟨.agg [], errT, false⟩), (418, some ⟨.agg [], errT, false⟩), (419, some ⟨.agg [], errT, false⟩), (420, some ⟨.agg [], errT, false⟩)] (.bool true) [] := by
 cases h : softOk (s.take 80) with
 | true => exact helloLines_y eo hd s hs h
 | false => exact helloLines_n eo hd s hs h
set_option maxRecDepth 100000 in
theorem helloOthers_w (eo : Nat → Nat × Nat) (n long : Int) (N M : Nat) (hN : max 0 (min n 20) = (N : Int)) (hM : max 0 (min long 300) = (M : Int)) (hN2 : N ≤ 20) (hM2 : M ≤ 300) (K1 K2 : HD) (r1 r2 : List UInt8) (hF1 : feedD (HD.mk true [] 0 [] 0) (hiN N ++ (verY ++ [10])) = (K1, r1)) (hF2 : feedD (HD.mk true [] 0 [] 0) (padV M ++ [10]) = (K2, r2)) (hp1 : K1.p = []) (hp2 : K2.p = []) (he1 : (K1.e == 0) = decide ((N : Int) ≤ 16)) (hv1 : (K1.v != []) = decide ((N : Int) ≤ 16)) (he2 : (K2.e == 0) = decide ((M : Int) + 10 < 255)) (hv2 : (K2.v != []) = (K2.e == 0)) : Meets Tryd.prog 9 [.i64 n, .i64 long] [(0, some ⟨.agg [.err 225 (3) (offE eo (3))], errT, false⟩), (4, some ⟨.agg [.err 225 (4) (offE eo (4))], errT, false⟩), (11, some ⟨.agg [.err 225 (12) (offE eo (12))], errT, false⟩), (3, some ⟨.agg [.err 225 (1) (offE eo (1))], errT, false⟩)] (.bool true) [] := by
 refine meets_of_ev (nt := 77) Tryd.func9 rfl rfl (Nat.le_of_ble_eq_true rfl) ?_
 refine .seq ?_
 refine .region ?_
 refine .q (op_assign rfl) trivial rfl ?_
 refine .nil ?_
 show Ev _ _ _ _ _
 refine .seq ?_
 refine .seq ?_
 refine .region ?_
 refine .q (op_call (U := []) [] [] (awake11_ev eo) Tryd.func26 (by kernel_rfl) rfl rfl rfl (trivial) (⟨⟨_, _, rfl, rfl, rfl, rfl, (fun h => by cases h), rfl⟩, ⟨_, _, rfl, rfl, rfl, rfl, (fun h => by cases h), rfl⟩, ⟨_, _, rfl, rfl, rfl, rfl, (fun h => by cases h), rfl⟩, ⟨_, _, rfl, rfl, rfl, rfl, (fun h => by cases h), rfl⟩, trivial⟩) (trivial) (⟨(fun h => by cases h), (fun h => by cases h), (fun h => by cases h), (fun h => by cases h), trivial⟩) rfl) trivial rfl ?_
 refine .q (op_notB rfl) trivial rfl ?_
 refine .nil ?_
 show Ev _ _ _ _ _
 refine .cond_false rfl (rfl) ?_
 refine .skip ?_
 show Ev _ _ _ _ _
 refine .seq ?_
 refine .region ?_
 refine .q (op_move rfl) trivial rfl ?_
 refine .q (op_minI rfl rfl) trivial rfl ?_
 refine .q (op_maxI rfl rfl) trivial rfl ?_
 refine .as (.i64 ((N : Nat) : Int)) (congrArg AV.i64 hN) ?_
 refine .q (op_move rfl) trivial rfl ?_
 refine .q (op_minI rfl rfl) trivial rfl ?_
 refine .q (op_maxI rfl rfl) trivial rfl ?_
 refine .as (.i64 ((M : Nat) : Int)) (congrArg AV.i64 hM) ?_
 refine .q (op_assign rfl) trivial rfl ?_
 refine .q (op_assign rfl) trivial rfl ?_
 refine .nil ?_
 show Ev _ _ _ _ _
 refine .seq ?_
 refine .region ?_
 refine .q (op_assign rfl) trivial rfl ?_
 refine .nil ?_
 show Ev _ _ _ _ _
 refine .seq ?_
 refine .seq ?_
 refine .region ?_
 refine .q (op_move rfl) trivial rfl ?_
 refine .q (op_move rfl) trivial rfl ?_
 refine .nil ?_
 show Ev _ _ _ _ _
 refine .block ?_
 refine Ev.loop (ι := { j : Nat // j ≤ N }) (fun j => ⟨[(0, .i64 ((N : Nat) : Int)), (1, .i64 ((M : Nat) : Int)), (5, .str (hiN j.1)), (21, .i64 ((N : Nat) : Int)), (22, .i64 ((j.1 : Nat) : Int))], [(0, some ⟨.agg [.err 225 (3) (offE eo (3))], errT, false⟩), (4, some ⟨.agg [.err 225 (4) (offE eo (4))], errT, false⟩), (11, some ⟨.agg [.err 225 (12) (offE eo (12))], errT, false⟩), (3, some ⟨.agg [.err 225 (1) (offE eo (1))], errT, false⟩)], 1000⟩) (fun j => N - j.1) ⟨0, Nat.zero_le _⟩ (StLe.mk [] rfl rfl ⟨⟨_, rfl, by first | rfl | (simp only [AV.ren]; congr 1; omega), rfl⟩, ⟨_, rfl, by first | rfl | (simp only [AV.ren]; congr 1; omega), rfl⟩, ⟨_, rfl, by first | rfl | (simp only [AV.ren]; congr 1; omega), rfl⟩, ⟨_, rfl, by first | rfl | (simp only [AV.ren]; congr 1; omega), rfl⟩, ⟨_, rfl, by first | rfl | (simp only [AV.ren]; congr 1; omega), rfl⟩, trivial⟩ ⟨⟨_, _, rfl, rfl, by first | rfl | (simp only [AV.ren]; congr 1; omega), rfl, id, rfl⟩, ⟨_, _, rfl, rfl, by first | rfl | (simp only [AV.ren]; congr 1; omega), rfl, id, rfl⟩, ⟨_, _, rfl, rfl, by first | rfl | (simp only [AV.ren]; congr 1; omega), rfl, id, rfl⟩, ⟨_, _, rfl, rfl, by first | rfl | (simp only [AV.ren]; congr 1; omega), rfl, id, rfl⟩, trivial⟩) ?_
 rintro ⟨j, hj⟩
 dsimp only
 refine .seq ?_
 refine .region ?_
 refine .q (op_cmpI rfl rfl rfl) trivial rfl ?_
 refine .nil ?_
 show Ev _ _ _ _ _
 refine .seq ?_
 refine .cond rfl (fun hc23 => ?_) (fun hc23 => ?_)
 ·first | replace hc23 := of_decide_eq_true hc23 | replace hc23 := of_decide_eq_false hc23 | replace hc23 := eq_of_beq hc23 | replace hc23 := ne_of_beq_false hc23 | simp only [bne_iff_ne, ne_eq] at hc23 | simp only [bne_eq_false_iff_eq] at hc23
  refine .skip ?_
  show Ev _ _ _ _ _
  refine .seq ?_
  refine .block ?_
  refine .region ?_
  refine .q (op_move rfl) trivial rfl ?_
  refine .q (op_addS rfl rfl (by rw [len_hi]; simp; omega)) trivial rfl ?_
  refine .q (op_assign rfl) trivial rfl ?_
  refine .nil ?_
  show Ev _ _ _ _ _
  refine .region ?_
  refine .q (op_addI rfl rfl ⟨by first | omega | (simp only [AV.len]; omega) | (simp only [AV.len, List.length_set]; omega) | assumption | (simp [AV.len]; done), by first | omega | (simp only [AV.len]; omega) | (simp only [AV.len, List.length_set]; omega) | assumption | (simp [AV.len]; done)⟩) trivial rfl ?_
  refine .q (op_move rfl) trivial rfl ?_
  refine .nil ?_
  exact ⟨⟨j + 1, by omega⟩, by show N - (j + 1) < N - j; omega, StLe.mk [] rfl rfl ⟨⟨_, rfl, by first | rfl | (simp only [AV.ren]; congr 1; omega), rfl⟩, ⟨_, rfl, by first | rfl | (simp only [AV.ren]; congr 1; omega), rfl⟩, ⟨_, rfl, by first | rfl | (simp only [AV.ren]; congr 1; omega), rfl⟩, ⟨_, rfl, by first | rfl | (simp only [AV.ren]; congr 1; omega), rfl⟩, ⟨_, rfl, by first | rfl | (simp only [AV.ren]; congr 1; omega), rfl⟩, trivial⟩ ⟨⟨_, _, rfl, rfl, by first | rfl | (simp only [AV.ren]; congr 1; omega), rfl, id, rfl⟩, ⟨_, _, rfl, rfl, by first | rfl | (simp only [AV.ren]; congr 1; omega), rfl, id, rfl⟩, ⟨_, _, rfl, rfl, by first | rfl | (simp only [AV.ren]; congr 1; omega), rfl, id, rfl⟩, ⟨_, _, rfl, rfl, by first | rfl | (simp only [AV.ren]; congr 1; omega), rfl, id, rfl⟩, trivial⟩⟩
 ·first | replace hc23 := of_decide_eq_true hc23 | replace hc23 := of_decide_eq_false hc23 | replace hc23 := eq_of_beq hc23 | replace hc23 := ne_of_beq_false hc23 | simp only [bne_iff_ne, ne_eq] at hc23 | simp only [bne_eq_false_iff_eq] at hc23
  refine .exit ?_
  show Ev _ _ _ _ _
  have ej : j = N := by omega
  refine Ev.weak (st2 := ⟨[(0, .i64 ((N : Nat) : Int)), (1, .i64 ((M : Nat) : Int)), (5, .str (hiN (N))), (21, .i64 ((N : Nat) : Int)), (22, .i64 (((N) : Nat) : Int))], [(0, some ⟨.agg [.err 225 (3) (offE eo (3))], errT, false⟩), (4, some ⟨.agg [.err 225 (4) (offE eo (4))], errT, false⟩), (11, some ⟨.agg [.err 225 (12) (offE eo (12))], errT, false⟩), (3, some ⟨.agg [.err 225 (1) (offE eo (1))], errT, false⟩)], 1000⟩) (StLe.mk [] rfl rfl ⟨⟨_, rfl, by first | (simp only [AV.ren]; done) | (simp only [AV.ren]; rw [ej]; done) | rfl, rfl⟩, ⟨_, rfl, by first | (simp only [AV.ren]; done) | (simp only [AV.ren]; rw [ej]; done) | rfl, rfl⟩, ⟨_, rfl, by first | (simp only [AV.ren]; done) | (simp only [AV.ren]; rw [ej]; done) | rfl, rfl⟩, ⟨_, rfl, by first | (simp only [AV.ren]; done) | (simp only [AV.ren]; rw [ej]; done) | rfl, rfl⟩, ⟨_, rfl, by first | (simp only [AV.ren]; done) | (simp only [AV.ren]; rw [ej]; done) | rfl, rfl⟩, trivial⟩ ⟨⟨_, _, rfl, rfl, by first | (simp only [AV.ren]; done) | (simp only [AV.ren]; rw [ej]; done) | rfl, rfl, id, rfl⟩, ⟨_, _, rfl, rfl, by first | (simp only [AV.ren]; done) | (simp only [AV.ren]; rw [ej]; done) | rfl, rfl, id, rfl⟩, ⟨_, _, rfl, rfl, by first | (simp only [AV.ren]; done) | (simp only [AV.ren]; rw [ej]; done) | rfl, rfl, id, rfl⟩, ⟨_, _, rfl, rfl, by first | (simp only [AV.ren]; done) | (simp only [AV.ren]; rw [ej]; done) | rfl, rfl, id, rfl⟩, trivial⟩) ?_
  refine .seq ?_
  refine .region ?_
  refine .a (op_call (U := [(1000, some ⟨.agg [.bool ((HD.mk true [] 0 [] 0)).c, .nilsl, .i64 ((((HD.mk true [] 0 [] 0)).g : Nat) : Int), .str ((HD.mk true [] 0 [] 0)).v, .err 225 (((HD.mk true [] 0 [] 0)).e) (offE eo (((HD.mk true [] 0 [] 0)).e))], 115, true⟩)]) [] [(1000, 1000)] (hnew_ev true eo) Tryd.func27 (by kernel_rfl) rfl rfl rfl (⟨⟨_, rfl, rfl, rfl⟩, trivial⟩) (trivial) (⟨⟨1000, _, rfl, rfl, rfl, rfl, .inl rfl⟩, trivial⟩) (trivial) rfl) trivial rfl ?_
  refine .q (op_assign rfl) trivial rfl ?_
  refine .nil ?_
  show Ev _ _ _ _ _
  refine .seq ?_
  refine .region ?_
  refine .q (op_move rfl) trivial rfl ?_
  refine .q (op_move rfl) trivial rfl ?_
  refine .q (op_addS rfl rfl (by rw [len_hi]; simp; omega)) trivial rfl ?_
  refine .as (.str (hiN N ++ (verY ++ [10]))) rfl ?_
  refine .a (op_call (U := [(1000, some ⟨.agg [.bool ((feedD (HD.mk true [] 0 [] 0) (hiN N ++ (verY ++ [10]))).1).c, .nilsl, .i64 ((((feedD (HD.mk true [] 0 [] 0) (hiN N ++ (verY ++ [10]))).1).g : Nat) : Int), .str ((feedD (HD.mk true [] 0 [] 0) (hiN N ++ (verY ++ [10]))).1).v, .err 225 (((feedD (HD.mk true [] 0 [] 0) (hiN N ++ (verY ++ [10]))).1).e) (offE eo (((feedD (HD.mk true [] 0 [] 0) (hiN N ++ (verY ++ [10]))).1).e))], 115, true⟩)]) [(500, 1000)] [] (feed_nn (HD.mk true [] 0 [] 0) (hiN N ++ (verY ++ [10])) (fine0 _) rfl (by rw [List.length_append, len_hi]; simp [verY]; omega) (by rw [hF1]; exact hp1) eo) Tryd.func31 (by kernel_rfl) rfl rfl rfl (⟨⟨_, rfl, rfl, rfl⟩, ⟨_, rfl, rfl, rfl⟩, trivial⟩) (⟨⟨_, _, rfl, rfl, rfl, rfl, id, rfl⟩, ⟨_, _, rfl, rfl, rfl, rfl, (fun h => by cases h), rfl⟩, ⟨_, _, rfl, rfl, rfl, rfl, (fun h => by cases h), rfl⟩, ⟨_, _, rfl, rfl, rfl, rfl, (fun h => by cases h), rfl⟩, trivial⟩) (⟨⟨500, _, rfl, rfl, rfl, rfl, .inr ⟨rfl, _, rfl, rfl⟩⟩, trivial⟩) (⟨(fun _ => ⟨1000, _, rfl, rfl⟩), (fun h => by cases h), (fun h => by cases h), (fun h => by cases h), trivial⟩) rfl) trivial rfl ?_
  refine .q (op_move rfl) trivial rfl ?_
  refine .q (op_extract rfl rfl) trivial rfl ?_
  refine .q (op_extract rfl rfl) trivial rfl ?_
  refine .q (op_assign rfl) trivial rfl ?_
  refine .q (op_assign rfl) trivial rfl ?_
  refine .nil ?_
  show Ev _ _ _ _ _
  refine .seq ?_
  refine .region ?_
  refine .q (op_assign rfl) trivial rfl ?_
  refine .nil ?_
  show Ev _ _ _ _ _
  refine .seq ?_
  refine .seq ?_
  refine .region ?_
  refine .q (op_move rfl) trivial rfl ?_
  refine .q (op_move rfl) trivial rfl ?_
  refine .nil ?_
  show Ev _ _ _ _ _
  refine .block ?_
  refine Ev.loop (ι := { j : Nat // j ≤ M }) (fun j => ⟨[(0, .i64 ((N : Nat) : Int)), (1, .i64 ((M : Nat) : Int)), (6, .ptr 1000 0), (8, .err 225 ((feedD (HD.mk true [] 0 [] 0) (hiN N ++ (verY ++ [10]))).1.e) (offE eo ((feedD (HD.mk true [] 0 [] 0) (hiN N ++ (verY ++ [10]))).1.e))), (9, .str (List.replicate j.1 120)), (35, .i64 ((M : Nat) : Int)), (36, .i64 ((j.1 : Nat) : Int))], [(1000, some ⟨.agg [.bool ((feedD (HD.mk true [] 0 [] 0) (hiN N ++ (verY ++ [10]))).1).c, .nilsl, .i64 ((((feedD (HD.mk true [] 0 [] 0) (hiN N ++ (verY ++ [10]))).1).g : Nat) : Int), .str ((feedD (HD.mk true [] 0 [] 0) (hiN N ++ (verY ++ [10]))).1).v, .err 225 (((feedD (HD.mk true [] 0 [] 0) (hiN N ++ (verY ++ [10]))).1).e) (offE eo (((feedD (HD.mk true [] 0 [] 0) (hiN N ++ (verY ++ [10]))).1).e))], 115, true⟩), (0, some ⟨.agg [.err 225 (3) (offE eo (3))], errT, false⟩), (4, some ⟨.agg [.err 225 (4) (offE eo (4))], errT, false⟩), (11, some ⟨.agg [.err 225 (12) (offE eo (12))], errT, false⟩), (3, some ⟨.agg [.err 225 (1) (offE eo (1))], errT, false⟩)], 1016⟩) (fun j => M - j.1) ⟨0, Nat.zero_le _⟩ (StLe.mk [(1000, 1000)] rfl rfl ⟨⟨_, rfl, by first | rfl | (simp only [AV.ren]; congr 1; omega), rfl⟩, ⟨_, rfl, by first | rfl | (simp only [AV.ren]; congr 1; omega), rfl⟩, ⟨_, rfl, by first | rfl | (simp only [AV.ren]; congr 1; omega), rfl⟩, ⟨_, rfl, by first | rfl | (simp only [AV.ren]; congr 1; omega), rfl⟩, ⟨_, rfl, by first | rfl | (simp only [AV.ren]; congr 1; omega), rfl⟩, ⟨_, rfl, by first | rfl | (simp only [AV.ren]; congr 1; omega), rfl⟩, ⟨_, rfl, by first | rfl | (simp only [AV.ren]; congr 1; omega), rfl⟩, trivial⟩ ⟨⟨_, _, rfl, rfl, by first | rfl | (simp only [AV.ren]; congr 1; omega), rfl, id, rfl⟩, ⟨_, _, rfl, rfl, by first | rfl | (simp only [AV.ren]; congr 1; omega), rfl, id, rfl⟩, ⟨_, _, rfl, rfl, by first | rfl | (simp only [AV.ren]; congr 1; omega), rfl, id, rfl⟩, ⟨_, _, rfl, rfl, by first | rfl | (simp only [AV.ren]; congr 1; omega), rfl, id, rfl⟩, ⟨_, _, rfl, rfl, by first | rfl | (simp only [AV.ren]; congr 1; omega), rfl, id, rfl⟩, trivial⟩) ?_
  rintro ⟨j, hj⟩
  dsimp only
  refine .seq ?_
  refine .region ?_
  refine .q (op_cmpI rfl rfl rfl) trivial rfl ?_
  refine .nil ?_
  show Ev _ _ _ _ _
  refine .seq ?_
  refine .cond rfl (fun hc37 => ?_) (fun hc37 => ?_)
  ·first | replace hc37 := of_decide_eq_true hc37 | replace hc37 := of_decide_eq_false hc37 | replace hc37 := eq_of_beq hc37 | replace hc37 := ne_of_beq_false hc37 | simp only [bne_iff_ne, ne_eq] at hc37 | simp only [bne_eq_false_iff_eq] at hc37
   refine .skip ?_
   show Ev _ _ _ _ _
   refine .seq ?_
   refine .block ?_
   refine .region ?_
   refine .q (op_move rfl) trivial rfl ?_
   refine .q (op_addS rfl rfl (by simp; omega)) trivial rfl ?_
   refine .q (op_assign rfl) trivial rfl ?_
   refine .nil ?_
   show Ev _ _ _ _ _
   refine .region ?_
   refine .q (op_addI rfl rfl ⟨by first | omega | (simp only [AV.len]; omega) | (simp only [AV.len, List.length_set]; omega) | assumption | (simp [AV.len]; done), by first | omega | (simp only [AV.len]; omega) | (simp only [AV.len, List.length_set]; omega) | assumption | (simp [AV.len]; done)⟩) trivial rfl ?_
   refine .q (op_move rfl) trivial rfl ?_
   refine .nil ?_
   exact ⟨⟨j + 1, by omega⟩, by show M - (j + 1) < M - j; omega, StLe.mk [(1000, 1000)] rfl rfl ⟨⟨_, rfl, by first | rfl | (simp only [AV.ren]; congr 1; omega), rfl⟩, ⟨_, rfl, by first | rfl | (simp only [AV.ren]; congr 1; omega), rfl⟩, ⟨_, rfl, by first | rfl | (simp only [AV.ren]; congr 1; omega), rfl⟩, ⟨_, rfl, by first | rfl | (simp only [AV.ren]; congr 1; omega), rfl⟩, ⟨_, rfl, by (simp only [AV.ren]; rw [List.replicate_succ']), rfl⟩, ⟨_, rfl, by first | rfl | (simp only [AV.ren]; congr 1; omega), rfl⟩, ⟨_, rfl, by first | rfl | (simp only [AV.ren]; congr 1; omega), rfl⟩, trivial⟩ ⟨⟨_, _, rfl, rfl, by first | rfl | (simp only [AV.ren]; congr 1; omega), rfl, id, rfl⟩, ⟨_, _, rfl, rfl, by first | rfl | (simp only [AV.ren]; congr 1; omega), rfl, id, rfl⟩, ⟨_, _, rfl, rfl, by first | rfl | (simp only [AV.ren]; congr 1; omega), rfl, id, rfl⟩, ⟨_, _, rfl, rfl, by first | rfl | (simp only [AV.ren]; congr 1; omega), rfl, id, rfl⟩, ⟨_, _, rfl, rfl, by first | rfl | (simp only [AV.ren]; congr 1; omega), rfl, id, rfl⟩, trivial⟩⟩
  ·first | replace hc37 := of_decide_eq_true hc37 | replace hc37 := of_decide_eq_false hc37 | replace hc37 := eq_of_beq hc37 | replace hc37 := ne_of_beq_false hc37 | simp only [bne_iff_ne, ne_eq] at hc37 | simp only [bne_eq_false_iff_eq] at hc37
   refine .exit ?_
   show Ev _ _ _ _ _
   have ej : j = M := by omega
   refine Ev.weak (st2 := ⟨[(0, .i64 ((N : Nat) : Int)), (1, .i64 ((M : Nat) : Int)), (6, .ptr 1000 0), (8, .err 225 ((feedD (HD.mk true [] 0 [] 0) (hiN N ++ (verY ++ [10]))).1.e) (offE eo ((feedD (HD.mk true [] 0 [] 0) (hiN N ++ (verY ++ [10]))).1.e))), (9, .str (List.replicate (M) 120)), (35, .i64 ((M : Nat) : Int)), (36, .i64 (((M) : Nat) : Int))], [(1000, some ⟨.agg [.bool ((feedD (HD.mk true [] 0 [] 0) (hiN N ++ (verY ++ [10]))).1).c, .nilsl, .i64 ((((feedD (HD.mk true [] 0 [] 0) (hiN N ++ (verY ++ [10]))).1).g : Nat) : Int), .str ((feedD (HD.mk true [] 0 [] 0) (hiN N ++ (verY ++ [10]))).1).v, .err 225 (((feedD (HD.mk true [] 0 [] 0) (hiN N ++ (verY ++ [10]))).1).e) (offE eo (((feedD (HD.mk true [] 0 [] 0) (hiN N ++ (verY ++ [10]))).1).e))], 115, true⟩), (0, some ⟨.agg [.err 225 (3) (offE eo (3))], errT, false⟩), (4, some ⟨.agg [.err 225 (4) (offE eo (4))], errT, false⟩), (11, some ⟨.agg [.err 225 (12) (offE eo (12))], errT, false⟩), (3, some ⟨.agg [.err 225 (1) (offE eo (1))], errT, false⟩)], 1016⟩) (StLe.mk [(1000, 1000)] rfl rfl ⟨⟨_, rfl, by first | (simp only [AV.ren]; done) | (simp only [AV.ren]; rw [ej]; done) | rfl, rfl⟩, ⟨_, rfl, by first | (simp only [AV.ren]; done) | (simp only [AV.ren]; rw [ej]; done) | rfl, rfl⟩, ⟨_, rfl, by first | (simp only [AV.ren]; done) | (simp only [AV.ren]; rw [ej]; done) | rfl, rfl⟩, ⟨_, rfl, by first | (simp only [AV.ren]; done) | (simp only [AV.ren]; rw [ej]; done) | rfl, rfl⟩, ⟨_, rfl, by first | (simp only [AV.ren]; done) | (simp only [AV.ren]; rw [ej]; done) | rfl, rfl⟩, ⟨_, rfl, by first | (simp only [AV.ren]; done) | (simp only [AV.ren]; rw [ej]; done) | rfl, rfl⟩, ⟨_, rfl, by first | (simp only [AV.ren]; done) | (simp only [AV.ren]; rw [ej]; done) | rfl, rfl⟩, trivial⟩ ⟨⟨_, _, rfl, rfl, by first | (simp only [AV.ren]; done) | (simp only [AV.ren]; rw [ej]; done) | rfl, rfl, id, rfl⟩, ⟨_, _, rfl, rfl, by first | (simp only [AV.ren]; done) | (simp only [AV.ren]; rw [ej]; done) | rfl, rfl, id, rfl⟩, ⟨_, _, rfl, rfl, by first | (simp only [AV.ren]; done) | (simp only [AV.ren]; rw [ej]; done) | rfl, rfl, id, rfl⟩, ⟨_, _, rfl, rfl, by first | (simp only [AV.ren]; done) | (simp only [AV.ren]; rw [ej]; done) | rfl, rfl, id, rfl⟩, ⟨_, _, rfl, rfl, by first | (simp only [AV.ren]; done) | (simp only [AV.ren]; rw [ej]; done) | rfl, rfl, id, rfl⟩, trivial⟩) ?_
   refine .seq ?_
   refine .region ?_
   refine .a (op_call (U := [(1016, some ⟨.agg [.bool ((HD.mk true [] 0 [] 0)).c, .nilsl, .i64 ((((HD.mk true [] 0 [] 0)).g : Nat) : Int), .str ((HD.mk true [] 0 [] 0)).v, .err 225 (((HD.mk true [] 0 [] 0)).e) (offE eo (((HD.mk true [] 0 [] 0)).e))], 115, true⟩)]) [] [(1016, 1000)] (hnew_ev true eo) Tryd.func27 (by kernel_rfl) rfl rfl rfl (⟨⟨_, rfl, rfl, rfl⟩, trivial⟩) (trivial) (⟨⟨1000, _, rfl, rfl, rfl, rfl, .inl rfl⟩, trivial⟩) (trivial) rfl) trivial rfl ?_
   refine .q (op_assign rfl) trivial rfl ?_
   refine .nil ?_
   show Ev _ _ _ _ _
   refine .seq ?_
   refine .region ?_
   refine .q (op_move rfl) trivial rfl ?_
   refine .q (op_move rfl) trivial rfl ?_
   refine .q (op_addS rfl rfl (by simp; omega)) trivial rfl ?_
   refine .q (op_addS rfl rfl (by simp; omega)) trivial rfl ?_
   refine .as (.str (padV M ++ [10])) rfl ?_
   refine .a (op_call (U := [(1016, some ⟨.agg [.bool ((feedD (HD.mk true [] 0 [] 0) (padV M ++ [10])).1).c, .nilsl, .i64 ((((feedD (HD.mk true [] 0 [] 0) (padV M ++ [10])).1).g : Nat) : Int), .str ((feedD (HD.mk true [] 0 [] 0) (padV M ++ [10])).1).v, .err 225 (((feedD (HD.mk true [] 0 [] 0) (padV M ++ [10])).1).e) (offE eo (((feedD (HD.mk true [] 0 [] 0) (padV M ++ [10])).1).e))], 115, true⟩)]) [(500, 1016)] [] (feed_nn (HD.mk true [] 0 [] 0) (padV M ++ [10]) (fine0 _) rfl (by rw [List.length_append, len_pad]; simp; omega) (by rw [hF2]; exact hp2) eo) Tryd.func31 (by kernel_rfl) rfl rfl rfl (⟨⟨_, rfl, rfl, rfl⟩, ⟨_, rfl, rfl, rfl⟩, trivial⟩) (⟨⟨_, _, rfl, rfl, rfl, rfl, id, rfl⟩, ⟨_, _, rfl, rfl, rfl, rfl, (fun h => by cases h), rfl⟩, ⟨_, _, rfl, rfl, rfl, rfl, (fun h => by cases h), rfl⟩, ⟨_, _, rfl, rfl, rfl, rfl, (fun h => by cases h), rfl⟩, trivial⟩) (⟨⟨500, _, rfl, rfl, rfl, rfl, .inr ⟨rfl, _, rfl, rfl⟩⟩, trivial⟩) (⟨(fun _ => ⟨1016, _, rfl, rfl⟩), (fun h => by cases h), (fun h => by cases h), (fun h => by cases h), trivial⟩) rfl) trivial rfl ?_
   refine .q (op_move rfl) trivial rfl ?_
   refine .q (op_extract rfl rfl) trivial rfl ?_
   refine .q (op_extract rfl rfl) trivial rfl ?_
   refine .q (op_assign rfl) trivial rfl ?_
   refine .q (op_assign rfl) trivial rfl ?_
   refine .nil ?_
   show Ev _ _ _ _ _
   refine .seq ?_
   refine .drawn [[], [0], [], [2], [0, 1, 2, 3], [0, 1, 2, 3, 4], [0, 1, 2, 3, 4, 5], [0, 1, 2, 3, 4, 5, 6], [0, 1, 2, 3, 4, 5], [0, 1, 2, 3, 4, 5, 8], [0, 1, 2, 3, 4, 5, 6, 7, 8, 9], [0, 1, 2, 3, 4, 5, 6, 7, 8, 9, 10], [0, 1, 2, 3, 4, 5, 6, 7, 8, 9, 10, 11], [0, 1, 2, 3, 4, 5, 6, 7, 8, 9, 10, 11, 12], [0, 1, 2, 3, 4, 5, 6, 7, 8, 9, 10, 11, 12, 13], [0, 1, 2, 3, 4, 5, 6, 7, 8, 9, 10, 11, 12], [0, 1, 2, 3, 4, 5, 6, 7, 8, 9, 10, 11, 12, 15], [0, 1, 2, 3, 4, 5, 6, 7, 8, 9, 10, 11, 12, 15, 16], [0, 1, 2, 3, 4, 5, 6, 7, 8, 9, 10, 11, 12, 13, 14, 15, 16, 17], [0, 1, 2, 3, 4, 5, 6, 7, 8, 9, 10, 11, 12, 13, 14, 15, 16, 17, 18], [0, 1, 2, 3, 4, 5, 6, 7, 8, 9, 10, 11, 12, 13, 14, 15, 16, 17, 18, 19], [0, 1, 2, 3, 4, 5, 6, 7, 8, 9, 10, 11, 12, 13, 14, 15, 16, 17, 18, 19, 20], [0, 1, 2, 3, 4, 5, 6, 7, 8, 9, 10, 11, 12, 13, 14, 15, 16, 17, 18, 19, 20, 21], [0, 1, 2, 3, 4, 5, 6, 7, 8, 9, 10, 11, 12, 13, 14, 15, 16, 17, 18, 19, 20], [0, 1, 2, 3, 4, 5, 6, 7, 8, 9, 10, 11, 12, 13, 14, 15, 16, 17, 18, 19, 20, 23], [0, 1, 2, 3, 4, 5, 6, 7, 8, 9, 10, 11, 12, 13, 14, 15, 16, 17, 18, 19, 20, 21, 22, 23, 24], [0, 1, 2, 3, 4, 5, 6, 7, 8, 9, 10, 11, 12, 13, 14, 15, 16, 17, 18, 19, 20, 21, 22, 23, 24, 25], [0, 1, 2, 3, 4, 5, 6, 7, 8, 9, 10, 11, 12, 13, 14, 15, 16, 17, 18, 19, 20, 21, 22, 23, 24, 25, 26]] [7, 22] [] (by kernel_rfl) (by kernel_rfl) rfl ?_
   show DK _ [0, 1, 2, 3, 4, 5, 6, 7, 8, 9, 10, 11, 12, 13, 14, 15, 16, 17, 18, 19, 20, 21, 22, 23, 24, 25, 26, 27] _ _ _
   refine .q rfl (op_move rfl) trivial ?_
   refine .q rfl (op_eqErrNil (e := (feedD (HD.mk true [] 0 [] 0) (hiN N ++ (verY ++ [10]))).1.e) Tryd.underlying26 rfl rfl) trivial ?_
   refine .q rfl (op_move rfl) trivial ?_
   refine .q rfl (op_cmpI rfl rfl rfl) trivial ?_
   refine .q rfl (op_eqB Tryd.underlying4 rfl rfl rfl) trivial ?_
   refine .q rfl (op_move rfl) trivial ?_
   refine .know (b' := true) (by rw [hF1]; exact beq_iff_eq.2 he1) ?_
   refine .q rfl (op_move rfl) ⟨_, rfl, rfl⟩ ?_
   refine .q rfl (op_call (U := []) [(500, 1000)] [] (done_n (feedD (HD.mk true [] 0 [] 0) (hiN N ++ (verY ++ [10]))).1 eo) Tryd.func30 (by kernel_rfl) rfl rfl rfl (⟨⟨_, rfl, rfl, rfl⟩, trivial⟩) (⟨⟨_, _, rfl, rfl, rfl, rfl, (fun h => by cases h), rfl⟩, trivial⟩) (trivial) (⟨(fun h => by cases h), trivial⟩) rfl) ⟨_, rfl, rfl⟩ ?_
   refine .q rfl (op_move rfl) ⟨_, rfl, rfl⟩ ?_
   refine .q rfl (op_cmpI rfl rfl rfl) ⟨_, rfl, rfl⟩ ?_
   refine .q rfl (op_eqB Tryd.underlying4 rfl rfl rfl) ⟨_, rfl, rfl⟩ ?_
   refine .q rfl (op_pick_true rfl rfl rfl) trivial ?_
   refine .q rfl (op_move rfl) trivial ?_
   refine .know (b' := true) (by rw [hF1]; exact beq_iff_eq.2 hv1) ?_
   refine .q rfl (op_move rfl) ⟨_, rfl, rfl⟩ ?_
   refine .q rfl (op_eqErrNil (e := (feedD (HD.mk true [] 0 [] 0) (padV M ++ [10])).1.e) Tryd.underlying26 rfl rfl) ⟨_, rfl, rfl⟩ ?_
   refine .q rfl (op_move rfl) ⟨_, rfl, rfl⟩ ?_
   refine .q rfl (op_addI rfl rfl ⟨by omega, by omega⟩) ⟨_, rfl, rfl⟩ ?_
   refine .q rfl (op_cmpI rfl rfl rfl) ⟨_, rfl, rfl⟩ ?_
   refine .q rfl (op_eqB Tryd.underlying4 rfl rfl rfl) ⟨_, rfl, rfl⟩ ?_
   refine .q rfl (op_pick_true rfl rfl rfl) trivial ?_
   refine .q rfl (op_move rfl) trivial ?_
   refine .know (b' := true) (by rw [hF2]; exact beq_iff_eq.2 he2) ?_
   refine .q rfl (op_move rfl) ⟨_, rfl, rfl⟩ ?_
   refine .q rfl (op_call (U := []) [(500, 1016)] [] (done_n (feedD (HD.mk true [] 0 [] 0) (padV M ++ [10])).1 eo) Tryd.func30 (by kernel_rfl) rfl rfl rfl (⟨⟨_, rfl, rfl, rfl⟩, trivial⟩) (⟨⟨_, _, rfl, rfl, rfl, rfl, (fun h => by cases h), rfl⟩, trivial⟩) (trivial) (⟨(fun h => by cases h), trivial⟩) rfl) ⟨_, rfl, rfl⟩ ?_
   refine .q rfl (op_move rfl) ⟨_, rfl, rfl⟩ ?_
   refine .q rfl (op_eqErrNil (e := (feedD (HD.mk true [] 0 [] 0) (padV M ++ [10])).1.e) Tryd.underlying26 rfl rfl) ⟨_, rfl, rfl⟩ ?_
   refine .q rfl (op_eqB Tryd.underlying4 rfl rfl rfl) ⟨_, rfl, rfl⟩ ?_
   refine .q rfl (op_pick_true rfl rfl rfl) trivial ?_
   refine .q rfl (op_assign rfl) trivial ?_
   refine .nil ?_
   show Ev _ _ _ _ _
   refine .ret ?_
   show RetOk _ _ _ _ _ _ _
   exact ret1v rfl (.inl rfl) rfl (congrArg AV.bool (by rw [hF2]; exact beq_iff_eq.2 hv2)) trivial
theorem helloOthers_ev (eo : Nat → Nat × Nat) (n long : Int) : Meets Tryd.prog 9 [.i64 n, .i64 long] [(0, some ⟨.agg [.err 225 (3) (offE eo (3))], errT, false⟩), (4, some ⟨.agg [.err 225 (4) (offE eo (4))], errT, false⟩), (11, some ⟨.agg [.err 225 (12) (offE eo (12))], errT, false⟩), (3, some ⟨.agg [.err 225 (1) (offE eo (1))], errT, false⟩)] (.bool true) [] := by
 obtain ⟨N, hN⟩ : ∃ N : Nat, max 0 (min n 20) = (N : Int) := ⟨(max 0 (min n 20)).toNat, by omega⟩
 obtain ⟨M, hM⟩ : ∃ M : Nat, max 0 (min long 300) = (M : Int) := ⟨(max 0 (min long 300)).toNat, by omega⟩
 have hN2 : N ≤ 20 := by omega
 have hM2 : M ≤ 300 := by omega
 by_cases h1 : N ≤ 16
 ·have d1 : decide ((N : Int) ≤ 16) = true := decide_eq_true (by omega)
  have f1 := feed_hi N 0 (by omega)
  by_cases h2 : M + 10 < 255
  ·have d2 : decide ((M : Int) + 10 < 255) = true := decide_eq_true (by omega)
   exact helloOthers_w eo n long N M hN hM hN2 hM2 _ _ _ _ f1 (feed_pad h2) rfl rfl (by rw [d1]; rfl) (by rw [d1]; rfl) (by rw [d2]; rfl) (by simp [padV, verY])
  ·have d2 : decide ((M : Int) + 10 < 255) = false := decide_eq_false (by omega)
   exact helloOthers_w eo n long N M hN hM hN2 hM2 _ _ _ _ f1 (feed_pads h2) rfl rfl (by rw [d1]; rfl) (by rw [d1]; rfl) (by rw [d2]; rfl) rfl
 ·have d1 : decide ((N : Int) ≤ 16) = false := decide_eq_false (by omega)
  obtain ⟨r, f1⟩ := feed_his N 0 (by decide) (by omega)
  by_cases h2 : M + 10 < 255
  ·have d2 : decide ((M : Int) + 10 < 255) = true := decide_eq_true (by omega)
   exact helloOthers_w eo n long N M hN hM hN2 hM2 _ _ _ _ f1 (feed_pad h2) rfl rfl (by rw [d1]; rfl) (by rw [d1]; rfl) (by rw [d2]; rfl) (by simp [padV, verY])
  ·have d2 : decide ((M : Int) + 10 < 255) = false := decide_eq_false (by omega)
   exact helloOthers_w eo n long N M hN hM hN2 hM2 _ _ _ _ f1 (feed_pads h2) rfl rfl (by rw [d1]; rfl) (by rw [d1]; rfl) (by rw [d2]; rfl) rfl
end Go.Proofs.YteefpaiefphdpaaDoor
