/-
  Texts of this claim.
-/
import Derived.Test.YtpmambceojbkaaaDoorGX3S
namespace Go.Proofs.YtpmambceojbkaaaDoor
open Go.RowKit
structure IN (L : List Ls) (x : Ls) where
  i : Nat
  A : List Ls
  d : Bool
  hi : i ≤ L.length
  hv : insL x false L = A ++ insL x d (L.drop i)
  hA : A.length ≤ i + (if d = true then 1 else 0)
theorem len_skip {A : List Ls} {i : Nat} {d : Bool} (h : A.length ≤ i + (if d = true then 1 else 0)) : A.length ≤ i + 1 + (if d = true then 1 else 0) := by omega
theorem len_keep {A : List Ls} {i : Nat} {d : Bool} {y : Ls} (h : A.length ≤ i + (if d = true then 1 else 0)) : (A ++ [y]).length ≤ i + 1 + (if d = true then 1 else 0) := by rw [List.length_append, List.length_singleton]; omega
theorem len_put {A : List Ls} {i : Nat} {x y : Ls} (h : A.length ≤ i + (if false = true then 1 else 0)) : ((A ++ [x]) ++ [y]).length ≤ i + 1 + (if true = true then 1 else 0) := by
  rw [List.length_append, List.length_append, List.length_singleton, List.length_singleton, if_pos rfl]
  rw [if_neg (by decide)] at h
  omega
theorem sl_snoc2 (b : Nat) (F : List Ls) (x y : Ls) : AV.sl b 0 (F.length + 1 + 1) 5 = .sl b 0 ((F ++ [x]) ++ [y]).length 5 := by rw [List.length_append, List.length_append]; rfl
theorem in_ne {y : Ls} {t al : List UInt8} {w e n : Int} (hc : kEq y ⟨t, al, w, e, n⟩) (h : (y.t == t) = false ∨ (y.a == al) = false) : False := by
  rcases h with h | h
  · have : y.t = t := hc.1
    rw [this] at h; simp at h
  · have : y.a = al := hc.2
    rw [this] at h; simp at h
theorem in_nl {y : Ls} {d : Bool} {t al : List UInt8} {w e n : Int} (h : (decide (t < y.t) = false ∧ (t == y.t) = false) ∨ (decide (t < y.t) = false ∧ decide (al < y.a) = false)) : (!d && decide (kLt ⟨t, al, w, e, n⟩ y)) = false := by
  rw [decide_eq_false, Bool.and_false]
  rintro (k | k)
  · rcases h with h | h
    · rw [decide_eq_true k] at h; cases h.1
    · rw [decide_eq_true k] at h; cases h.1
  · rcases h with h | h
    · have := h.2; simp at this; exact this k.1
    · rw [decide_eq_true k.2] at h; cases h.2
set_option maxRecDepth 100000 in
theorem rvalid_ev (s : List UInt8) (hl : s.length ≤ 9223372036854775000) : Meets Tryd.prog 10 [.str s] [] (.bool (nameN s)) [] := by
 refine meets_of_ev (nt := 66) Tryd.func10 rfl rfl (Nat.le_of_ble_eq_true rfl) ?_
 refine .seq ?_
 refine .region ?_
 refine .q (op_assign rfl) trivial rfl ?_
 refine .nil ?_
 show Ev _ _ _ _ _
 refine .seq ?_
 refine .seq ?_
 refine .region ?_
 refine .q (op_assign rfl) trivial rfl ?_
 refine .nil ?_
 show Ev _ _ _ _ _
 refine .block ?_
 refine Ev.loop (ι := { i : Nat // i ≤ s.length ∧ goodR s i }) (fun q => ⟨[(0, .str s), (3, .i64 ((q.1 : Nat) : Int))], [], 1000⟩) (fun q => s.length - q.1) ⟨0, Nat.zero_le _, good0 s⟩ (StLe.mk [] rfl rfl ⟨⟨_, rfl, by first | rfl | (simp only [AV.ren]; congr 1; omega), rfl⟩, ⟨_, rfl, by first | rfl | (simp only [AV.ren]; congr 1; omega), rfl⟩, trivial⟩ trivial) ?_
 rintro ⟨i, hi0, hv⟩
 dsimp only
 refine .seq ?_
 refine .seq ?_
 refine .region ?_
 refine .q (op_move rfl) trivial rfl ?_
 refine .q (op_move rfl) trivial rfl ?_
 refine .q (op_len_str Tryd.underlying9 rfl) trivial rfl ?_
 refine .q (op_cmpI rfl rfl rfl) trivial rfl ?_
 refine .nil ?_
 show Ev _ _ _ _ _
 refine .cond rfl (fun hc10 => ?_) (fun hc10 => ?_)
 ·skip
  refine .skip ?_
  show Ev _ _ _ _ _
  refine .seq ?_
  refine .block ?_
  refine .seq ?_
  refine .region ?_
  have hi : i < s.length := by have := of_decide_eq_true hc10; omega
  refine .q (op_move rfl) trivial rfl ?_
  refine .q (op_move rfl) trivial rfl ?_
  refine .q (op_index_str Tryd.underlying9 rfl rfl (i := i) rfl (hi)) trivial rfl ?_
  refine .q (op_bin8 rfl rfl rfl) trivial rfl ?_
  refine .q (op_move rfl) trivial rfl ?_
  refine .split (fun hg17 => ?_) (fun hg17 => ?_)
  ·skip
   refine .q (op_move rfl) ⟨_, rfl, rfl⟩ rfl ?_
   refine .q (op_move rfl) ⟨_, rfl, rfl⟩ rfl ?_
   refine .q (op_index_str Tryd.underlying9 rfl rfl (i := i) rfl (hi)) ⟨_, rfl, rfl⟩ rfl ?_
   refine .q (op_bin8 rfl rfl rfl) ⟨_, rfl, rfl⟩ rfl ?_
   refine .q (op_pick_true rfl rfl rfl) trivial rfl ?_
   refine .q (op_assign rfl) trivial rfl ?_
   refine .as (.bool (smallB (s.getD i 0))) (by unfold smallB; rw [show decide ((97 : UInt8) ≤ s.getD i 0) = _ from hg17]; rfl) ?_
   refine .nil ?_
   show Ev _ _ _ _ _
   refine .seq ?_
   refine .region ?_
   refine .q (op_move rfl) trivial rfl ?_
   refine .q (op_move rfl) trivial rfl ?_
   refine .q (op_index_str Tryd.underlying9 rfl rfl (i := i) rfl (hi)) trivial rfl ?_
   refine .q (op_bin8 rfl rfl rfl) trivial rfl ?_
   refine .q (op_move rfl) trivial rfl ?_
   refine .split (fun hg27 => ?_) (fun hg27 => ?_)
   ·skip
    refine .q (op_move rfl) ⟨_, rfl, rfl⟩ rfl ?_
    refine .q (op_move rfl) ⟨_, rfl, rfl⟩ rfl ?_
    refine .q (op_index_str Tryd.underlying9 rfl rfl (i := i) rfl (hi)) ⟨_, rfl, rfl⟩ rfl ?_
    refine .q (op_bin8 rfl rfl rfl) ⟨_, rfl, rfl⟩ rfl ?_
    refine .q (op_pick_true rfl rfl rfl) trivial rfl ?_
    refine .q (op_assign rfl) trivial rfl ?_
    refine .as (.bool (digitB (s.getD i 0))) (by unfold digitB; rw [show decide ((48 : UInt8) ≤ s.getD i 0) = _ from hg27]; rfl) ?_
    refine .nil ?_
    show Ev _ _ _ _ _
    refine .seq ?_
    refine .region ?_
    refine .q (op_move rfl) trivial rfl ?_
    refine .q (op_move rfl) trivial rfl ?_
    refine .q (op_index_str Tryd.underlying9 rfl rfl (i := i) rfl (hi)) trivial rfl ?_
    refine .q (op_bin8 rfl rfl rfl) trivial rfl ?_
    refine .q (op_move rfl) trivial rfl ?_
    refine .split (fun hg37 => ?_) (fun hg37 => ?_)
    ·skip
     refine .q (op_move rfl) ⟨_, rfl, rfl⟩ rfl ?_
     refine .q (op_cmpI rfl rfl rfl) ⟨_, rfl, rfl⟩ rfl ?_
     refine .q (op_pick_true rfl rfl rfl) trivial rfl ?_
     refine .q (op_move rfl) trivial rfl ?_
     refine .split (fun hg41 => ?_) (fun hg41 => ?_)
     ·skip
      refine .q (op_move rfl) ⟨_, rfl, rfl⟩ rfl ?_
      refine .q (op_addI rfl rfl ⟨by omega, by omega⟩) ⟨_, rfl, rfl⟩ rfl ?_
      refine .q (op_move rfl) ⟨_, rfl, rfl⟩ rfl ?_
      refine .q (op_len_str Tryd.underlying9 rfl) ⟨_, rfl, rfl⟩ rfl ?_
      refine .q (op_cmpI rfl rfl rfl) ⟨_, rfl, rfl⟩ rfl ?_
      refine .q (op_pick_true rfl rfl rfl) trivial rfl ?_
      refine .q (op_assign rfl) trivial rfl ?_
      refine .as (.bool (dashB s i)) (by unfold dashB; rw [show (s.getD i 0 == (45 : UInt8)) = _ from hg37]; first | rfl | (rw [hg41]; rfl)) ?_
      refine .nil ?_
      show Ev _ _ _ _ _
      refine .seq ?_
      refine .region ?_
      refine .q (op_move rfl) trivial rfl ?_
      refine .q (op_notB rfl) trivial rfl ?_
      refine .q (op_move rfl) trivial rfl ?_
      refine .split (fun hg50 => ?_) (fun hg50 => ?_)
      ·skip
       refine .q (op_move rfl) ⟨_, rfl, rfl⟩ rfl ?_
       refine .q (op_notB rfl) ⟨_, rfl, rfl⟩ rfl ?_
       refine .q (op_pick_true rfl rfl rfl) trivial rfl ?_
       refine .q (op_move rfl) trivial rfl ?_
       refine .split (fun hg54 => ?_) (fun hg54 => ?_)
       ·skip
        refine .q (op_move rfl) ⟨_, rfl, rfl⟩ rfl ?_
        refine .q (op_notB rfl) ⟨_, rfl, rfl⟩ rfl ?_
        refine .q (op_pick_true rfl rfl rfl) trivial rfl ?_
        refine .nil ?_
        show Ev _ _ _ _ _
        refine .cond rfl (fun hc57 => ?_) (fun hc57 => ?_)
        ·skip
         refine .seq ?_
         refine .region ?_
         refine .q (op_assign rfl) trivial rfl ?_
         refine .nil ?_
         show Ev _ _ _ _ _
         refine .ret ?_
         show RetOk _ _ _ _ _ _ _
         exact ret1v rfl (.inl rfl) rfl (congrArg AV.bool (by first | exact rv_bad hi hg50 hg54 hc57 | (rw [← rv_end hi0 (of_decide_eq_false hc10) hv, hg61]; rfl))) trivial
        ·skip
         refine .skip ?_
         show Ev _ _ _ _ _
         refine .region ?_
         refine .q (op_move rfl) trivial rfl ?_
         refine .q (op_addI rfl rfl ⟨by omega, by omega⟩) trivial rfl ?_
         refine .q (op_assign rfl) trivial rfl ?_
         refine .nil ?_
         exact ⟨⟨i + 1, hi, good_step hv (by first | exact .inl (by simpa using hg50) | exact .inr (.inl (by simpa using hg54)) | exact .inr (.inr (by simpa using hc57)))⟩, by show _ - (i + 1) < _ - i; omega, StLe.mk [] rfl rfl ⟨⟨_, rfl, by first | rfl | (simp only [AV.ren]; congr 1; omega), rfl⟩, ⟨_, rfl, by first | rfl | (simp only [AV.ren]; congr 1; omega), rfl⟩, trivial⟩ trivial⟩
       ·skip
        refine .no ⟨_, rfl, rfl⟩ rfl ?_
        refine .no ⟨_, rfl, rfl⟩ rfl ?_
        refine .q (op_pick_false rfl rfl rfl) trivial rfl ?_
        refine .nil ?_
        show Ev _ _ _ _ _
        refine .cond_false rfl rfl ?_
        refine .skip ?_
        show Ev _ _ _ _ _
        refine .region ?_
        refine .q (op_move rfl) trivial rfl ?_
        refine .q (op_addI rfl rfl ⟨by omega, by omega⟩) trivial rfl ?_
        refine .q (op_assign rfl) trivial rfl ?_
        refine .nil ?_
        exact ⟨⟨i + 1, hi, good_step hv (by first | exact .inl (by simpa using hg50) | exact .inr (.inl (by simpa using hg54)) | exact .inr (.inr (by simpa using hc57)))⟩, by show _ - (i + 1) < _ - i; omega, StLe.mk [] rfl rfl ⟨⟨_, rfl, by first | rfl | (simp only [AV.ren]; congr 1; omega), rfl⟩, ⟨_, rfl, by first | rfl | (simp only [AV.ren]; congr 1; omega), rfl⟩, trivial⟩ trivial⟩
      ·skip
       refine .no ⟨_, rfl, rfl⟩ rfl ?_
       refine .no ⟨_, rfl, rfl⟩ rfl ?_
       refine .q (op_pick_false rfl rfl rfl) trivial rfl ?_
       refine .q (op_move rfl) trivial rfl ?_
       refine .no ⟨_, rfl, rfl⟩ rfl ?_
       refine .no ⟨_, rfl, rfl⟩ rfl ?_
       refine .q (op_pick_false rfl rfl rfl) trivial rfl ?_
       refine .nil ?_
       show Ev _ _ _ _ _
       refine .cond_false rfl rfl ?_
       refine .skip ?_
       show Ev _ _ _ _ _
       refine .region ?_
       refine .q (op_move rfl) trivial rfl ?_
       refine .q (op_addI rfl rfl ⟨by omega, by omega⟩) trivial rfl ?_
       refine .q (op_assign rfl) trivial rfl ?_
       refine .nil ?_
       exact ⟨⟨i + 1, hi, good_step hv (by first | exact .inl (by simpa using hg50) | exact .inr (.inl (by simpa using hg54)) | exact .inr (.inr (by simpa using hc57)))⟩, by show _ - (i + 1) < _ - i; omega, StLe.mk [] rfl rfl ⟨⟨_, rfl, by first | rfl | (simp only [AV.ren]; congr 1; omega), rfl⟩, ⟨_, rfl, by first | rfl | (simp only [AV.ren]; congr 1; omega), rfl⟩, trivial⟩ trivial⟩
     ·skip
      refine .no ⟨_, rfl, rfl⟩ rfl ?_
      refine .no ⟨_, rfl, rfl⟩ rfl ?_
      refine .no ⟨_, rfl, rfl⟩ rfl ?_
      refine .no ⟨_, rfl, rfl⟩ rfl ?_
      refine .no ⟨_, rfl, rfl⟩ rfl ?_
      refine .q (op_pick_false rfl rfl rfl) trivial rfl ?_
      refine .q (op_assign rfl) trivial rfl ?_
      refine .as (.bool (dashB s i)) (by unfold dashB; rw [show (s.getD i 0 == (45 : UInt8)) = _ from hg37]; first | rfl | (rw [hg41]; rfl)) ?_
      refine .nil ?_
      show Ev _ _ _ _ _
      refine .seq ?_
      refine .region ?_
      refine .q (op_move rfl) trivial rfl ?_
      refine .q (op_notB rfl) trivial rfl ?_
      refine .q (op_move rfl) trivial rfl ?_
      refine .split (fun hg50 => ?_) (fun hg50 => ?_)
      ·skip
       refine .q (op_move rfl) ⟨_, rfl, rfl⟩ rfl ?_
       refine .q (op_notB rfl) ⟨_, rfl, rfl⟩ rfl ?_
       refine .q (op_pick_true rfl rfl rfl) trivial rfl ?_
       refine .q (op_move rfl) trivial rfl ?_
       refine .split (fun hg54 => ?_) (fun hg54 => ?_)
       ·skip
        refine .q (op_move rfl) ⟨_, rfl, rfl⟩ rfl ?_
        refine .q (op_notB rfl) ⟨_, rfl, rfl⟩ rfl ?_
        refine .q (op_pick_true rfl rfl rfl) trivial rfl ?_
        refine .nil ?_
        show Ev _ _ _ _ _
        refine .cond rfl (fun hc57 => ?_) (fun hc57 => ?_)
        ·skip
         refine .seq ?_
         refine .region ?_
         refine .q (op_assign rfl) trivial rfl ?_
         refine .nil ?_
         show Ev _ _ _ _ _
         refine .ret ?_
         show RetOk _ _ _ _ _ _ _
         exact ret1v rfl (.inl rfl) rfl (congrArg AV.bool (by first | exact rv_bad hi hg50 hg54 hc57 | (rw [← rv_end hi0 (of_decide_eq_false hc10) hv, hg61]; rfl))) trivial
        ·skip
         refine .skip ?_
         show Ev _ _ _ _ _
         refine .region ?_
         refine .q (op_move rfl) trivial rfl ?_
         refine .q (op_addI rfl rfl ⟨by omega, by omega⟩) trivial rfl ?_
         refine .q (op_assign rfl) trivial rfl ?_
         refine .nil ?_
         exact ⟨⟨i + 1, hi, good_step hv (by first | exact .inl (by simpa using hg50) | exact .inr (.inl (by simpa using hg54)) | exact .inr (.inr (by simpa using hc57)))⟩, by show _ - (i + 1) < _ - i; omega, StLe.mk [] rfl rfl ⟨⟨_, rfl, by first | rfl | (simp only [AV.ren]; congr 1; omega), rfl⟩, ⟨_, rfl, by first | rfl | (simp only [AV.ren]; congr 1; omega), rfl⟩, trivial⟩ trivial⟩
       ·skip
        refine .no ⟨_, rfl, rfl⟩ rfl ?_
        refine .no ⟨_, rfl, rfl⟩ rfl ?_
        refine .q (op_pick_false rfl rfl rfl) trivial rfl ?_
        refine .nil ?_
        show Ev _ _ _ _ _
        refine .cond_false rfl rfl ?_
        refine .skip ?_
        show Ev _ _ _ _ _
        refine .region ?_
        refine .q (op_move rfl) trivial rfl ?_
        refine .q (op_addI rfl rfl ⟨by omega, by omega⟩) trivial rfl ?_
        refine .q (op_assign rfl) trivial rfl ?_
        refine .nil ?_
        exact ⟨⟨i + 1, hi, good_step hv (by first | exact .inl (by simpa using hg50) | exact .inr (.inl (by simpa using hg54)) | exact .inr (.inr (by simpa using hc57)))⟩, by show _ - (i + 1) < _ - i; omega, StLe.mk [] rfl rfl ⟨⟨_, rfl, by first | rfl | (simp only [AV.ren]; congr 1; omega), rfl⟩, ⟨_, rfl, by first | rfl | (simp only [AV.ren]; congr 1; omega), rfl⟩, trivial⟩ trivial⟩
      ·skip
       refine .no ⟨_, rfl, rfl⟩ rfl ?_
       refine .no ⟨_, rfl, rfl⟩ rfl ?_
       refine .q (op_pick_false rfl rfl rfl) trivial rfl ?_
       refine .q (op_move rfl) trivial rfl ?_
       refine .no ⟨_, rfl, rfl⟩ rfl ?_
       refine .no ⟨_, rfl, rfl⟩ rfl ?_
       refine .q (op_pick_false rfl rfl rfl) trivial rfl ?_
       refine .nil ?_
       show Ev _ _ _ _ _
       refine .cond_false rfl rfl ?_
       refine .skip ?_
       show Ev _ _ _ _ _
       refine .region ?_
       refine .q (op_move rfl) trivial rfl ?_
       refine .q (op_addI rfl rfl ⟨by omega, by omega⟩) trivial rfl ?_
       refine .q (op_assign rfl) trivial rfl ?_
       refine .nil ?_
       exact ⟨⟨i + 1, hi, good_step hv (by first | exact .inl (by simpa using hg50) | exact .inr (.inl (by simpa using hg54)) | exact .inr (.inr (by simpa using hc57)))⟩, by show _ - (i + 1) < _ - i; omega, StLe.mk [] rfl rfl ⟨⟨_, rfl, by first | rfl | (simp only [AV.ren]; congr 1; omega), rfl⟩, ⟨_, rfl, by first | rfl | (simp only [AV.ren]; congr 1; omega), rfl⟩, trivial⟩ trivial⟩
    ·skip
     refine .no ⟨_, rfl, rfl⟩ rfl ?_
     refine .no ⟨_, rfl, rfl⟩ rfl ?_
     refine .q (op_pick_false rfl rfl rfl) trivial rfl ?_
     refine .q (op_move rfl) trivial rfl ?_
     refine .no ⟨_, rfl, rfl⟩ rfl ?_
     refine .no ⟨_, rfl, rfl⟩ rfl ?_
     refine .no ⟨_, rfl, rfl⟩ rfl ?_
     refine .no ⟨_, rfl, rfl⟩ rfl ?_
     refine .no ⟨_, rfl, rfl⟩ rfl ?_
     refine .q (op_pick_false rfl rfl rfl) trivial rfl ?_
     refine .q (op_assign rfl) trivial rfl ?_
     refine .as (.bool (dashB s i)) (by unfold dashB; rw [show (s.getD i 0 == (45 : UInt8)) = _ from hg37]; first | rfl | (rw [hg41]; rfl)) ?_
     refine .nil ?_
     show Ev _ _ _ _ _
     refine .seq ?_
     refine .region ?_
     refine .q (op_move rfl) trivial rfl ?_
     refine .q (op_notB rfl) trivial rfl ?_
     refine .q (op_move rfl) trivial rfl ?_
     refine .split (fun hg50 => ?_) (fun hg50 => ?_)
     ·skip
      refine .q (op_move rfl) ⟨_, rfl, rfl⟩ rfl ?_
      refine .q (op_notB rfl) ⟨_, rfl, rfl⟩ rfl ?_
      refine .q (op_pick_true rfl rfl rfl) trivial rfl ?_
      refine .q (op_move rfl) trivial rfl ?_
      refine .split (fun hg54 => ?_) (fun hg54 => ?_)
      ·skip
       refine .q (op_move rfl) ⟨_, rfl, rfl⟩ rfl ?_
       refine .q (op_notB rfl) ⟨_, rfl, rfl⟩ rfl ?_
       refine .q (op_pick_true rfl rfl rfl) trivial rfl ?_
       refine .nil ?_
       show Ev _ _ _ _ _
       refine .cond rfl (fun hc57 => ?_) (fun hc57 => ?_)
       ·skip
        refine .seq ?_
        refine .region ?_
        refine .q (op_assign rfl) trivial rfl ?_
        refine .nil ?_
        show Ev _ _ _ _ _
        refine .ret ?_
        show RetOk _ _ _ _ _ _ _
        exact ret1v rfl (.inl rfl) rfl (congrArg AV.bool (by first | exact rv_bad hi hg50 hg54 hc57 | (rw [← rv_end hi0 (of_decide_eq_false hc10) hv, hg61]; rfl))) trivial
       ·skip
        refine .skip ?_
        show Ev _ _ _ _ _
        refine .region ?_
        refine .q (op_move rfl) trivial rfl ?_
        refine .q (op_addI rfl rfl ⟨by omega, by omega⟩) trivial rfl ?_
        refine .q (op_assign rfl) trivial rfl ?_
        refine .nil ?_
        exact ⟨⟨i + 1, hi, good_step hv (by first | exact .inl (by simpa using hg50) | exact .inr (.inl (by simpa using hg54)) | exact .inr (.inr (by simpa using hc57)))⟩, by show _ - (i + 1) < _ - i; omega, StLe.mk [] rfl rfl ⟨⟨_, rfl, by first | rfl | (simp only [AV.ren]; congr 1; omega), rfl⟩, ⟨_, rfl, by first | rfl | (simp only [AV.ren]; congr 1; omega), rfl⟩, trivial⟩ trivial⟩
      ·skip
       refine .no ⟨_, rfl, rfl⟩ rfl ?_
       refine .no ⟨_, rfl, rfl⟩ rfl ?_
       refine .q (op_pick_false rfl rfl rfl) trivial rfl ?_
       refine .nil ?_
       show Ev _ _ _ _ _
       refine .cond_false rfl rfl ?_
       refine .skip ?_
       show Ev _ _ _ _ _
       refine .region ?_
       refine .q (op_move rfl) trivial rfl ?_
       refine .q (op_addI rfl rfl ⟨by omega, by omega⟩) trivial rfl ?_
       refine .q (op_assign rfl) trivial rfl ?_
       refine .nil ?_
       exact ⟨⟨i + 1, hi, good_step hv (by first | exact .inl (by simpa using hg50) | exact .inr (.inl (by simpa using hg54)) | exact .inr (.inr (by simpa using hc57)))⟩, by show _ - (i + 1) < _ - i; omega, StLe.mk [] rfl rfl ⟨⟨_, rfl, by first | rfl | (simp only [AV.ren]; congr 1; omega), rfl⟩, ⟨_, rfl, by first | rfl | (simp only [AV.ren]; congr 1; omega), rfl⟩, trivial⟩ trivial⟩
     ·skip
      refine .no ⟨_, rfl, rfl⟩ rfl ?_
      refine .no ⟨_, rfl, rfl⟩ rfl ?_
      refine .q (op_pick_false rfl rfl rfl) trivial rfl ?_
      refine .q (op_move rfl) trivial rfl ?_
      refine .no ⟨_, rfl, rfl⟩ rfl ?_
      refine .no ⟨_, rfl, rfl⟩ rfl ?_
      refine .q (op_pick_false rfl rfl rfl) trivial rfl ?_
      refine .nil ?_
      show Ev _ _ _ _ _
      refine .cond_false rfl rfl ?_
      refine .skip ?_
      show Ev _ _ _ _ _
      refine .region ?_
      refine .q (op_move rfl) trivial rfl ?_
      refine .q (op_addI rfl rfl ⟨by omega, by omega⟩) trivial rfl ?_
      refine .q (op_assign rfl) trivial rfl ?_
      refine .nil ?_
      exact ⟨⟨i + 1, hi, good_step hv (by first | exact .inl (by simpa using hg50) | exact .inr (.inl (by simpa using hg54)) | exact .inr (.inr (by simpa using hc57)))⟩, by show _ - (i + 1) < _ - i; omega, StLe.mk [] rfl rfl ⟨⟨_, rfl, by first | rfl | (simp only [AV.ren]; congr 1; omega), rfl⟩, ⟨_, rfl, by first | rfl | (simp only [AV.ren]; congr 1; omega), rfl⟩, trivial⟩ trivial⟩
   ·skip
    refine .no ⟨_, rfl, rfl⟩ rfl ?_
    refine .no ⟨_, rfl, rfl⟩ rfl ?_
    refine .no ⟨_, rfl, rfl⟩ rfl ?_
    refine .no ⟨_, rfl, rfl⟩ rfl ?_
    refine .q (op_pick_false rfl rfl rfl) trivial rfl ?_
    refine .q (op_assign rfl) trivial rfl ?_
    refine .as (.bool (digitB (s.getD i 0))) (by unfold digitB; rw [show decide ((48 : UInt8) ≤ s.getD i 0) = _ from hg27]; rfl) ?_
    refine .nil ?_
    show Ev _ _ _ _ _
    refine .seq ?_
    refine .region ?_
    refine .q (op_move rfl) trivial rfl ?_
    refine .q (op_move rfl) trivial rfl ?_
    refine .q (op_index_str Tryd.underlying9 rfl rfl (i := i) rfl (hi)) trivial rfl ?_
    refine .q (op_bin8 rfl rfl rfl) trivial rfl ?_
    refine .q (op_move rfl) trivial rfl ?_
    refine .split (fun hg37 => ?_) (fun hg37 => ?_)
    ·skip
     refine .q (op_move rfl) ⟨_, rfl, rfl⟩ rfl ?_
     refine .q (op_cmpI rfl rfl rfl) ⟨_, rfl, rfl⟩ rfl ?_
     refine .q (op_pick_true rfl rfl rfl) trivial rfl ?_
     refine .q (op_move rfl) trivial rfl ?_
     refine .split (fun hg41 => ?_) (fun hg41 => ?_)
     ·skip
      refine .q (op_move rfl) ⟨_, rfl, rfl⟩ rfl ?_
      refine .q (op_addI rfl rfl ⟨by omega, by omega⟩) ⟨_, rfl, rfl⟩ rfl ?_
      refine .q (op_move rfl) ⟨_, rfl, rfl⟩ rfl ?_
      refine .q (op_len_str Tryd.underlying9 rfl) ⟨_, rfl, rfl⟩ rfl ?_
      refine .q (op_cmpI rfl rfl rfl) ⟨_, rfl, rfl⟩ rfl ?_
      refine .q (op_pick_true rfl rfl rfl) trivial rfl ?_
      refine .q (op_assign rfl) trivial rfl ?_
      refine .as (.bool (dashB s i)) (by unfold dashB; rw [show (s.getD i 0 == (45 : UInt8)) = _ from hg37]; first | rfl | (rw [hg41]; rfl)) ?_
      refine .nil ?_
      show Ev _ _ _ _ _
      refine .seq ?_
      refine .region ?_
      refine .q (op_move rfl) trivial rfl ?_
      refine .q (op_notB rfl) trivial rfl ?_
      refine .q (op_move rfl) trivial rfl ?_
      refine .split (fun hg50 => ?_) (fun hg50 => ?_)
      ·skip
       refine .q (op_move rfl) ⟨_, rfl, rfl⟩ rfl ?_
       refine .q (op_notB rfl) ⟨_, rfl, rfl⟩ rfl ?_
       refine .q (op_pick_true rfl rfl rfl) trivial rfl ?_
       refine .q (op_move rfl) trivial rfl ?_
       refine .split (fun hg54 => ?_) (fun hg54 => ?_)
       ·skip
        refine .q (op_move rfl) ⟨_, rfl, rfl⟩ rfl ?_
        refine .q (op_notB rfl) ⟨_, rfl, rfl⟩ rfl ?_
        refine .q (op_pick_true rfl rfl rfl) trivial rfl ?_
        refine .nil ?_
        show Ev _ _ _ _ _
        refine .cond rfl (fun hc57 => ?_) (fun hc57 => ?_)
        ·skip
         refine .seq ?_
         refine .region ?_
         refine .q (op_assign rfl) trivial rfl ?_
         refine .nil ?_
         show Ev _ _ _ _ _
         refine .ret ?_
         show RetOk _ _ _ _ _ _ _
         exact ret1v rfl (.inl rfl) rfl (congrArg AV.bool (by first | exact rv_bad hi hg50 hg54 hc57 | (rw [← rv_end hi0 (of_decide_eq_false hc10) hv, hg61]; rfl))) trivial
        ·skip
         refine .skip ?_
         show Ev _ _ _ _ _
         refine .region ?_
         refine .q (op_move rfl) trivial rfl ?_
         refine .q (op_addI rfl rfl ⟨by omega, by omega⟩) trivial rfl ?_
         refine .q (op_assign rfl) trivial rfl ?_
         refine .nil ?_
         exact ⟨⟨i + 1, hi, good_step hv (by first | exact .inl (by simpa using hg50) | exact .inr (.inl (by simpa using hg54)) | exact .inr (.inr (by simpa using hc57)))⟩, by show _ - (i + 1) < _ - i; omega, StLe.mk [] rfl rfl ⟨⟨_, rfl, by first | rfl | (simp only [AV.ren]; congr 1; omega), rfl⟩, ⟨_, rfl, by first | rfl | (simp only [AV.ren]; congr 1; omega), rfl⟩, trivial⟩ trivial⟩
       ·skip
        refine .no ⟨_, rfl, rfl⟩ rfl ?_
        refine .no ⟨_, rfl, rfl⟩ rfl ?_
        refine .q (op_pick_false rfl rfl rfl) trivial rfl ?_
        refine .nil ?_
        show Ev _ _ _ _ _
        refine .cond_false rfl rfl ?_
        refine .skip ?_
        show Ev _ _ _ _ _
        refine .region ?_
        refine .q (op_move rfl) trivial rfl ?_
        refine .q (op_addI rfl rfl ⟨by omega, by omega⟩) trivial rfl ?_
        refine .q (op_assign rfl) trivial rfl ?_
        refine .nil ?_
        exact ⟨⟨i + 1, hi, good_step hv (by first | exact .inl (by simpa using hg50) | exact .inr (.inl (by simpa using hg54)) | exact .inr (.inr (by simpa using hc57)))⟩, by show _ - (i + 1) < _ - i; omega, StLe.mk [] rfl rfl ⟨⟨_, rfl, by first | rfl | (simp only [AV.ren]; congr 1; omega), rfl⟩, ⟨_, rfl, by first | rfl | (simp only [AV.ren]; congr 1; omega), rfl⟩, trivial⟩ trivial⟩
      ·skip
       refine .no ⟨_, rfl, rfl⟩ rfl ?_
       refine .no ⟨_, rfl, rfl⟩ rfl ?_
       refine .q (op_pick_false rfl rfl rfl) trivial rfl ?_
       refine .q (op_move rfl) trivial rfl ?_
       refine .no ⟨_, rfl, rfl⟩ rfl ?_
       refine .no ⟨_, rfl, rfl⟩ rfl ?_
       refine .q (op_pick_false rfl rfl rfl) trivial rfl ?_
       refine .nil ?_
       show Ev _ _ _ _ _
       refine .cond_false rfl rfl ?_
       refine .skip ?_
       show Ev _ _ _ _ _
       refine .region ?_
       refine .q (op_move rfl) trivial rfl ?_
       refine .q (op_addI rfl rfl ⟨by omega, by omega⟩) trivial rfl ?_
       refine .q (op_assign rfl) trivial rfl ?_
       refine .nil ?_
       exact ⟨⟨i + 1, hi, good_step hv (by first | exact .inl (by simpa using hg50) | exact .inr (.inl (by simpa using hg54)) | exact .inr (.inr (by simpa using hc57)))⟩, by show _ - (i + 1) < _ - i; omega, StLe.mk [] rfl rfl ⟨⟨_, rfl, by first | rfl | (simp only [AV.ren]; congr 1; omega), rfl⟩, ⟨_, rfl, by first | rfl | (simp only [AV.ren]; congr 1; omega), rfl⟩, trivial⟩ trivial⟩
     ·skip
      refine .no ⟨_, rfl, rfl⟩ rfl ?_
      refine .no ⟨_, rfl, rfl⟩ rfl ?_
      refine .no ⟨_, rfl, rfl⟩ rfl ?_
      refine .no ⟨_, rfl, rfl⟩ rfl ?_
      refine .no ⟨_, rfl, rfl⟩ rfl ?_
      refine .q (op_pick_false rfl rfl rfl) trivial rfl ?_
      refine .q (op_assign rfl) trivial rfl ?_
      refine .as (.bool (dashB s i)) (by unfold dashB; rw [show (s.getD i 0 == (45 : UInt8)) = _ from hg37]; first | rfl | (rw [hg41]; rfl)) ?_
      refine .nil ?_
      show Ev _ _ _ _ _
      refine .seq ?_
      refine .region ?_
      refine .q (op_move rfl) trivial rfl ?_
      refine .q (op_notB rfl) trivial rfl ?_
      refine .q (op_move rfl) trivial rfl ?_
      refine .split (fun hg50 => ?_) (fun hg50 => ?_)
      ·skip
       refine .q (op_move rfl) ⟨_, rfl, rfl⟩ rfl ?_
       refine .q (op_notB rfl) ⟨_, rfl, rfl⟩ rfl ?_
       refine .q (op_pick_true rfl rfl rfl) trivial rfl ?_
       refine .q (op_move rfl) trivial rfl ?_
       refine .split (fun hg54 => ?_) (fun hg54 => ?_)
       ·skip
        refine .q (op_move rfl) ⟨_, rfl, rfl⟩ rfl ?_
        refine .q (op_notB rfl) ⟨_, rfl, rfl⟩ rfl ?_
        refine .q (op_pick_true rfl rfl rfl) trivial rfl ?_
        refine .nil ?_
        show Ev _ _ _ _ _
        refine .cond rfl (fun hc57 => ?_) (fun hc57 => ?_)
        ·skip
         refine .seq ?_
         refine .region ?_
         refine .q (op_assign rfl) trivial rfl ?_
         refine .nil ?_
         show Ev _ _ _ _ _
         refine .ret ?_
         show RetOk _ _ _ _ _ _ _
         exact ret1v rfl (.inl rfl) rfl (congrArg AV.bool (by first | exact rv_bad hi hg50 hg54 hc57 | (rw [← rv_end hi0 (of_decide_eq_false hc10) hv, hg61]; rfl))) trivial
        ·skip
         refine .skip ?_
         show Ev _ _ _ _ _
         refine .region ?_
         refine .q (op_move rfl) trivial rfl ?_
         refine .q (op_addI rfl rfl ⟨by omega, by omega⟩) trivial rfl ?_
         refine .q (op_assign rfl) trivial rfl ?_
         refine .nil ?_
         exact ⟨⟨i + 1, hi, good_step hv (by first | exact .inl (by simpa using hg50) | exact .inr (.inl (by simpa using hg54)) | exact .inr (.inr (by simpa using hc57)))⟩, by show _ - (i + 1) < _ - i; omega, StLe.mk [] rfl rfl ⟨⟨_, rfl, by first | rfl | (simp only [AV.ren]; congr 1; omega), rfl⟩, ⟨_, rfl, by first | rfl | (simp only [AV.ren]; congr 1; omega), rfl⟩, trivial⟩ trivial⟩
       ·skip
        refine .no ⟨_, rfl, rfl⟩ rfl ?_
        refine .no ⟨_, rfl, rfl⟩ rfl ?_
        refine .q (op_pick_false rfl rfl rfl) trivial rfl ?_
        refine .nil ?_
        show Ev _ _ _ _ _
        refine .cond_false rfl rfl ?_
        refine .skip ?_
        show Ev _ _ _ _ _
        refine .region ?_
        refine .q (op_move rfl) trivial rfl ?_
        refine .q (op_addI rfl rfl ⟨by omega, by omega⟩) trivial rfl ?_
        refine .q (op_assign rfl) trivial rfl ?_
        refine .nil ?_
        exact ⟨⟨i + 1, hi, good_step hv (by first | exact .inl (by simpa using hg50) | exact .inr (.inl (by simpa using hg54)) | exact .inr (.inr (by simpa using hc57)))⟩, by show _ - (i + 1) < _ - i; omega, StLe.mk [] rfl rfl ⟨⟨_, rfl, by first | rfl | (simp only [AV.ren]; congr 1; omega), rfl⟩, ⟨_, rfl, by first | rfl | (simp only [AV.ren]; congr 1; omega), rfl⟩, trivial⟩ trivial⟩
      ·skip
       refine .no ⟨_, rfl, rfl⟩ rfl ?_
       refine .no ⟨_, rfl, rfl⟩ rfl ?_
       refine .q (op_pick_false rfl rfl rfl) trivial rfl ?_
       refine .q (op_move rfl) trivial rfl ?_
       refine .no ⟨_, rfl, rfl⟩ rfl ?_
       refine .no ⟨_, rfl, rfl⟩ rfl ?_
       refine .q (op_pick_false rfl rfl rfl) trivial rfl ?_
       refine .nil ?_
       show Ev _ _ _ _ _
       refine .cond_false rfl rfl ?_
       refine .skip ?_
       show Ev _ _ _ _ _
       refine .region ?_
       refine .q (op_move rfl) trivial rfl ?_
       refine .q (op_addI rfl rfl ⟨by omega, by omega⟩) trivial rfl ?_
       refine .q (op_assign rfl) trivial rfl ?_
       refine .nil ?_
       exact ⟨⟨i + 1, hi, good_step hv (by first | exact .inl (by simpa using hg50) | exact .inr (.inl (by simpa using hg54)) | exact .inr (.inr (by simpa using hc57)))⟩, by show _ - (i + 1) < _ - i; omega, StLe.mk [] rfl rfl ⟨⟨_, rfl, by first | rfl | (simp only [AV.ren]; congr 1; omega), rfl⟩, ⟨_, rfl, by first | rfl | (simp only [AV.ren]; congr 1; omega), rfl⟩, trivial⟩ trivial⟩
    ·skip
     refine .no ⟨_, rfl, rfl⟩ rfl ?_
     refine .no ⟨_, rfl, rfl⟩ rfl ?_
     refine .q (op_pick_false rfl rfl rfl) trivial rfl ?_
     refine .q (op_move rfl) trivial rfl ?_
     refine .no ⟨_, rfl, rfl⟩ rfl ?_
     refine .no ⟨_, rfl, rfl⟩ rfl ?_
     refine .no ⟨_, rfl, rfl⟩ rfl ?_
     refine .no ⟨_, rfl, rfl⟩ rfl ?_
     refine .no ⟨_, rfl, rfl⟩ rfl ?_
     refine .q (op_pick_false rfl rfl rfl) trivial rfl ?_
     refine .q (op_assign rfl) trivial rfl ?_
     refine .as (.bool (dashB s i)) (by unfold dashB; rw [show (s.getD i 0 == (45 : UInt8)) = _ from hg37]; first | rfl | (rw [hg41]; rfl)) ?_
     refine .nil ?_
     show Ev _ _ _ _ _
     refine .seq ?_
     refine .region ?_
     refine .q (op_move rfl) trivial rfl ?_
     refine .q (op_notB rfl) trivial rfl ?_
     refine .q (op_move rfl) trivial rfl ?_
     refine .split (fun hg50 => ?_) (fun hg50 => ?_)
     ·skip
      refine .q (op_move rfl) ⟨_, rfl, rfl⟩ rfl ?_
      refine .q (op_notB rfl) ⟨_, rfl, rfl⟩ rfl ?_
      refine .q (op_pick_true rfl rfl rfl) trivial rfl ?_
      refine .q (op_move rfl) trivial rfl ?_
      refine .split (fun hg54 => ?_) (fun hg54 => ?_)
      ·skip
       refine .q (op_move rfl) ⟨_, rfl, rfl⟩ rfl ?_
       refine .q (op_notB rfl) ⟨_, rfl, rfl⟩ rfl ?_
       refine .q (op_pick_true rfl rfl rfl) trivial rfl ?_
       refine .nil ?_
       show Ev _ _ _ _ _
       refine .cond rfl (fun hc57 => ?_) (fun hc57 => ?_)
       ·skip
        refine .seq ?_
        refine .region ?_
        refine .q (op_assign rfl) trivial rfl ?_
        refine .nil ?_
        show Ev _ _ _ _ _
        refine .ret ?_
        show RetOk _ _ _ _ _ _ _
        exact ret1v rfl (.inl rfl) rfl (congrArg AV.bool (by first | exact rv_bad hi hg50 hg54 hc57 | (rw [← rv_end hi0 (of_decide_eq_false hc10) hv, hg61]; rfl))) trivial
       ·skip
        refine .skip ?_
        show Ev _ _ _ _ _
        refine .region ?_
        refine .q (op_move rfl) trivial rfl ?_
        refine .q (op_addI rfl rfl ⟨by omega, by omega⟩) trivial rfl ?_
        refine .q (op_assign rfl) trivial rfl ?_
        refine .nil ?_
        exact ⟨⟨i + 1, hi, good_step hv (by first | exact .inl (by simpa using hg50) | exact .inr (.inl (by simpa using hg54)) | exact .inr (.inr (by simpa using hc57)))⟩, by show _ - (i + 1) < _ - i; omega, StLe.mk [] rfl rfl ⟨⟨_, rfl, by first | rfl | (simp only [AV.ren]; congr 1; omega), rfl⟩, ⟨_, rfl, by first | rfl | (simp only [AV.ren]; congr 1; omega), rfl⟩, trivial⟩ trivial⟩
      ·skip
       refine .no ⟨_, rfl, rfl⟩ rfl ?_
       refine .no ⟨_, rfl, rfl⟩ rfl ?_
       refine .q (op_pick_false rfl rfl rfl) trivial rfl ?_
       refine .nil ?_
       show Ev _ _ _ _ _
       refine .cond_false rfl rfl ?_
       refine .skip ?_
       show Ev _ _ _ _ _
       refine .region ?_
       refine .q (op_move rfl) trivial rfl ?_
       refine .q (op_addI rfl rfl ⟨by omega, by omega⟩) trivial rfl ?_
       refine .q (op_assign rfl) trivial rfl ?_
       refine .nil ?_
       exact ⟨⟨i + 1, hi, good_step hv (by first | exact .inl (by simpa using hg50) | exact .inr (.inl (by simpa using hg54)) | exact .inr (.inr (by simpa using hc57)))⟩, by show _ - (i + 1) < _ - i; omega, StLe.mk [] rfl rfl ⟨⟨_, rfl, by first | rfl | (simp only [AV.ren]; congr 1; omega), rfl⟩, ⟨_, rfl, by first | rfl | (simp only [AV.ren]; congr 1; omega), rfl⟩, trivial⟩ trivial⟩
     ·skip
      refine .no ⟨_, rfl, rfl⟩ rfl ?_
      refine .no ⟨_, rfl, rfl⟩ rfl ?_
      refine .q (op_pick_false rfl rfl rfl) trivial rfl ?_
      refine .q (op_move rfl) trivial rfl ?_
      refine .no ⟨_, rfl, rfl⟩ rfl ?_
      refine .no ⟨_, rfl, rfl⟩ rfl ?_
      refine .q (op_pick_false rfl rfl rfl) trivial rfl ?_
      refine .nil ?_
      show Ev _ _ _ _ _
      refine .cond_false rfl rfl ?_
      refine .skip ?_
      show Ev _ _ _ _ _
      refine .region ?_
      refine .q (op_move rfl) trivial rfl ?_
      refine .q (op_addI rfl rfl ⟨by omega, by omega⟩) trivial rfl ?_
      refine .q (op_assign rfl) trivial rfl ?_
      refine .nil ?_
      exact ⟨⟨i + 1, hi, good_step hv (by first | exact .inl (by simpa using hg50) | exact .inr (.inl (by simpa using hg54)) | exact .inr (.inr (by simpa using hc57)))⟩, by show _ - (i + 1) < _ - i; omega, StLe.mk [] rfl rfl ⟨⟨_, rfl, by first | rfl | (simp only [AV.ren]; congr 1; omega), rfl⟩, ⟨_, rfl, by first | rfl | (simp only [AV.ren]; congr 1; omega), rfl⟩, trivial⟩ trivial⟩
  ·skip
   refine .no ⟨_, rfl, rfl⟩ rfl ?_
   refine .no ⟨_, rfl, rfl⟩ rfl ?_
   refine .no ⟨_, rfl, rfl⟩ rfl ?_
   refine .no ⟨_, rfl, rfl⟩ rfl ?_
   refine .q (op_pick_false rfl rfl rfl) trivial rfl ?_
   refine .q (op_assign rfl) trivial rfl ?_
   refine .as (.bool (smallB (s.getD i 0))) (by unfold smallB; rw [show decide ((97 : UInt8) ≤ s.getD i 0) = _ from hg17]; rfl) ?_
   refine .nil ?_
   show Ev _ _ _ _ _
   refine .seq ?_
   refine .region ?_
   refine .q (op_move rfl) trivial rfl ?_
   refine .q (op_move rfl) trivial rfl ?_
   refine .q (op_index_str Tryd.underlying9 rfl rfl (i := i) rfl (hi)) trivial rfl ?_
   refine .q (op_bin8 rfl rfl rfl) trivial rfl ?_
   refine .q (op_move rfl) trivial rfl ?_
   refine .split (fun hg27 => ?_) (fun hg27 => ?_)
   ·skip
    refine .q (op_move rfl) ⟨_, rfl, rfl⟩ rfl ?_
    refine .q (op_move rfl) ⟨_, rfl, rfl⟩ rfl ?_
    refine .q (op_index_str Tryd.underlying9 rfl rfl (i := i) rfl (hi)) ⟨_, rfl, rfl⟩ rfl ?_
    refine .q (op_bin8 rfl rfl rfl) ⟨_, rfl, rfl⟩ rfl ?_
    refine .q (op_pick_true rfl rfl rfl) trivial rfl ?_
    refine .q (op_assign rfl) trivial rfl ?_
    refine .as (.bool (digitB (s.getD i 0))) (by unfold digitB; rw [show decide ((48 : UInt8) ≤ s.getD i 0) = _ from hg27]; rfl) ?_
    refine .nil ?_
    show Ev _ _ _ _ _
    refine .seq ?_
    refine .region ?_
    refine .q (op_move rfl) trivial rfl ?_
    refine .q (op_move rfl) trivial rfl ?_
    refine .q (op_index_str Tryd.underlying9 rfl rfl (i := i) rfl (hi)) trivial rfl ?_
    refine .q (op_bin8 rfl rfl rfl) trivial rfl ?_
    refine .q (op_move rfl) trivial rfl ?_
    refine .split (fun hg37 => ?_) (fun hg37 => ?_)
    ·skip
     refine .q (op_move rfl) ⟨_, rfl, rfl⟩ rfl ?_
     refine .q (op_cmpI rfl rfl rfl) ⟨_, rfl, rfl⟩ rfl ?_
     refine .q (op_pick_true rfl rfl rfl) trivial rfl ?_
     refine .q (op_move rfl) trivial rfl ?_
     refine .split (fun hg41 => ?_) (fun hg41 => ?_)
     ·skip
      refine .q (op_move rfl) ⟨_, rfl, rfl⟩ rfl ?_
      refine .q (op_addI rfl rfl ⟨by omega, by omega⟩) ⟨_, rfl, rfl⟩ rfl ?_
      refine .q (op_move rfl) ⟨_, rfl, rfl⟩ rfl ?_
      refine .q (op_len_str Tryd.underlying9 rfl) ⟨_, rfl, rfl⟩ rfl ?_
      refine .q (op_cmpI rfl rfl rfl) ⟨_, rfl, rfl⟩ rfl ?_
      refine .q (op_pick_true rfl rfl rfl) trivial rfl ?_
      refine .q (op_assign rfl) trivial rfl ?_
      refine .as (.bool (dashB s i)) (by unfold dashB; rw [show (s.getD i 0 == (45 : UInt8)) = _ from hg37]; first | rfl | (rw [hg41]; rfl)) ?_
      refine .nil ?_
      show Ev _ _ _ _ _
      refine .seq ?_
      refine .region ?_
      refine .q (op_move rfl) trivial rfl ?_
      refine .q (op_notB rfl) trivial rfl ?_
      refine .q (op_move rfl) trivial rfl ?_
      refine .split (fun hg50 => ?_) (fun hg50 => ?_)
      ·skip
       refine .q (op_move rfl) ⟨_, rfl, rfl⟩ rfl ?_
       refine .q (op_notB rfl) ⟨_, rfl, rfl⟩ rfl ?_
       refine .q (op_pick_true rfl rfl rfl) trivial rfl ?_
       refine .q (op_move rfl) trivial rfl ?_
       refine .split (fun hg54 => ?_) (fun hg54 => ?_)
       ·skip
        refine .q (op_move rfl) ⟨_, rfl, rfl⟩ rfl ?_
        refine .q (op_notB rfl) ⟨_, rfl, rfl⟩ rfl ?_
        refine .q (op_pick_true rfl rfl rfl) trivial rfl ?_
        refine .nil ?_
        show Ev _ _ _ _ _
        refine .cond rfl (fun hc57 => ?_) (fun hc57 => ?_)
        ·skip
         refine .seq ?_
         refine .region ?_
         refine .q (op_assign rfl) trivial rfl ?_
         refine .nil ?_
         show Ev _ _ _ _ _
         refine .ret ?_
         show RetOk _ _ _ _ _ _ _
         exact ret1v rfl (.inl rfl) rfl (congrArg AV.bool (by first | exact rv_bad hi hg50 hg54 hc57 | (rw [← rv_end hi0 (of_decide_eq_false hc10) hv, hg61]; rfl))) trivial
        ·skip
         refine .skip ?_
         show Ev _ _ _ _ _
         refine .region ?_
         refine .q (op_move rfl) trivial rfl ?_
         refine .q (op_addI rfl rfl ⟨by omega, by omega⟩) trivial rfl ?_
         refine .q (op_assign rfl) trivial rfl ?_
         refine .nil ?_
         exact ⟨⟨i + 1, hi, good_step hv (by first | exact .inl (by simpa using hg50) | exact .inr (.inl (by simpa using hg54)) | exact .inr (.inr (by simpa using hc57)))⟩, by show _ - (i + 1) < _ - i; omega, StLe.mk [] rfl rfl ⟨⟨_, rfl, by first | rfl | (simp only [AV.ren]; congr 1; omega), rfl⟩, ⟨_, rfl, by first | rfl | (simp only [AV.ren]; congr 1; omega), rfl⟩, trivial⟩ trivial⟩
       ·skip
        refine .no ⟨_, rfl, rfl⟩ rfl ?_
        refine .no ⟨_, rfl, rfl⟩ rfl ?_
        refine .q (op_pick_false rfl rfl rfl) trivial rfl ?_
        refine .nil ?_
        show Ev _ _ _ _ _
        refine .cond_false rfl rfl ?_
        refine .skip ?_
        show Ev _ _ _ _ _
        refine .region ?_
        refine .q (op_move rfl) trivial rfl ?_
        refine .q (op_addI rfl rfl ⟨by omega, by omega⟩) trivial rfl ?_
        refine .q (op_assign rfl) trivial rfl ?_
        refine .nil ?_
        exact ⟨⟨i + 1, hi, good_step hv (by first | exact .inl (by simpa using hg50) | exact .inr (.inl (by simpa using hg54)) | exact .inr (.inr (by simpa using hc57)))⟩, by show _ - (i + 1) < _ - i; omega, StLe.mk [] rfl rfl ⟨⟨_, rfl, by first | rfl | (simp only [AV.ren]; congr 1; omega), rfl⟩, ⟨_, rfl, by first | rfl | (simp only [AV.ren]; congr 1; omega), rfl⟩, trivial⟩ trivial⟩
      ·skip
       refine .no ⟨_, rfl, rfl⟩ rfl ?_
       refine .no ⟨_, rfl, rfl⟩ rfl ?_
       refine .q (op_pick_false rfl rfl rfl) trivial rfl ?_
       refine .q (op_move rfl) trivial rfl ?_
       refine .no ⟨_, rfl, rfl⟩ rfl ?_
       refine .no ⟨_, rfl, rfl⟩ rfl ?_
       refine .q (op_pick_false rfl rfl rfl) trivial rfl ?_
       refine .nil ?_
       show Ev _ _ _ _ _
       refine .cond_false rfl rfl ?_
       refine .skip ?_
       show Ev _ _ _ _ _
       refine .region ?_
       refine .q (op_move rfl) trivial rfl ?_
       refine .q (op_addI rfl rfl ⟨by omega, by omega⟩) trivial rfl ?_
       refine .q (op_assign rfl) trivial rfl ?_
       refine .nil ?_
       exact ⟨⟨i + 1, hi, good_step hv (by first | exact .inl (by simpa using hg50) | exact .inr (.inl (by simpa using hg54)) | exact .inr (.inr (by simpa using hc57)))⟩, by show _ - (i + 1) < _ - i; omega, StLe.mk [] rfl rfl ⟨⟨_, rfl, by first | rfl | (simp only [AV.ren]; congr 1; omega), rfl⟩, ⟨_, rfl, by first | rfl | (simp only [AV.ren]; congr 1; omega), rfl⟩, trivial⟩ trivial⟩
     ·skip
      refine .no ⟨_, rfl, rfl⟩ rfl ?_
      refine .no ⟨_, rfl, rfl⟩ rfl ?_
      refine .no ⟨_, rfl, rfl⟩ rfl ?_
      refine .no ⟨_, rfl, rfl⟩ rfl ?_
      refine .no ⟨_, rfl, rfl⟩ rfl ?_
      refine .q (op_pick_false rfl rfl rfl) trivial rfl ?_
      refine .q (op_assign rfl) trivial rfl ?_
      refine .as (.bool (dashB s i)) (by unfold dashB; rw [show (s.getD i 0 == (45 : UInt8)) = _ from hg37]; first | rfl | (rw [hg41]; rfl)) ?_
      refine .nil ?_
      show Ev _ _ _ _ _
      refine .seq ?_
      refine .region ?_
      refine .q (op_move rfl) trivial rfl ?_
      refine .q (op_notB rfl) trivial rfl ?_
      refine .q (op_move rfl) trivial rfl ?_
      refine .split (fun hg50 => ?_) (fun hg50 => ?_)
      ·skip
       refine .q (op_move rfl) ⟨_, rfl, rfl⟩ rfl ?_
       refine .q (op_notB rfl) ⟨_, rfl, rfl⟩ rfl ?_
       refine .q (op_pick_true rfl rfl rfl) trivial rfl ?_
       refine .q (op_move rfl) trivial rfl ?_
       refine .split (fun hg54 => ?_) (fun hg54 => ?_)
       ·skip
        refine .q (op_move rfl) ⟨_, rfl, rfl⟩ rfl ?_
        refine .q (op_notB rfl) ⟨_, rfl, rfl⟩ rfl ?_
        refine .q (op_pick_true rfl rfl rfl) trivial rfl ?_
        refine .nil ?_
        show Ev _ _ _ _ _
        refine .cond rfl (fun hc57 => ?_) (fun hc57 => ?_)
        ·skip
         refine .seq ?_
         refine .region ?_
         refine .q (op_assign rfl) trivial rfl ?_
         refine .nil ?_
         show Ev _ _ _ _ _
         refine .ret ?_
         show RetOk _ _ _ _ _ _ _
         exact ret1v rfl (.inl rfl) rfl (congrArg AV.bool (by first | exact rv_bad hi hg50 hg54 hc57 | (rw [← rv_end hi0 (of_decide_eq_false hc10) hv, hg61]; rfl))) trivial
        ·skip
         refine .skip ?_
         show Ev _ _ _ _ _
         refine .region ?_
         refine .q (op_move rfl) trivial rfl ?_
         refine .q (op_addI rfl rfl ⟨by omega, by omega⟩) trivial rfl ?_
         refine .q (op_assign rfl) trivial rfl ?_
         refine .nil ?_
         exact ⟨⟨i + 1, hi, good_step hv (by first | exact .inl (by simpa using hg50) | exact .inr (.inl (by simpa using hg54)) | exact .inr (.inr (by simpa using hc57)))⟩, by show _ - (i + 1) < _ - i; omega, StLe.mk [] rfl rfl ⟨⟨_, rfl, by first | rfl | (simp only [AV.ren]; congr 1; omega), rfl⟩, ⟨_, rfl, by first | rfl | (simp only [AV.ren]; congr 1; omega), rfl⟩, trivial⟩ trivial⟩
       ·skip
        refine .no ⟨_, rfl, rfl⟩ rfl ?_
        refine .no ⟨_, rfl, rfl⟩ rfl ?_
        refine .q (op_pick_false rfl rfl rfl) trivial rfl ?_
        refine .nil ?_
        show Ev _ _ _ _ _
        refine .cond_false rfl rfl ?_
        refine .skip ?_
        show Ev _ _ _ _ _
        refine .region ?_
        refine .q (op_move rfl) trivial rfl ?_
        refine .q (op_addI rfl rfl ⟨by omega, by omega⟩) trivial rfl ?_
        refine .q (op_assign rfl) trivial rfl ?_
        refine .nil ?_
        exact ⟨⟨i + 1, hi, good_step hv (by first | exact .inl (by simpa using hg50) | exact .inr (.inl (by simpa using hg54)) | exact .inr (.inr (by simpa using hc57)))⟩, by show _ - (i + 1) < _ - i; omega, StLe.mk [] rfl rfl ⟨⟨_, rfl, by first | rfl | (simp only [AV.ren]; congr 1; omega), rfl⟩, ⟨_, rfl, by first | rfl | (simp only [AV.ren]; congr 1; omega), rfl⟩, trivial⟩ trivial⟩
      ·skip
       refine .no ⟨_, rfl, rfl⟩ rfl ?_
       refine .no ⟨_, rfl, rfl⟩ rfl ?_
       refine .q (op_pick_false rfl rfl rfl) trivial rfl ?_
       refine .q (op_move rfl) trivial rfl ?_
       refine .no ⟨_, rfl, rfl⟩ rfl ?_
       refine .no ⟨_, rfl, rfl⟩ rfl ?_
       refine .q (op_pick_false rfl rfl rfl) trivial rfl ?_
       refine .nil ?_
       show Ev _ _ _ _ _
       refine .cond_false rfl rfl ?_
       refine .skip ?_
       show Ev _ _ _ _ _
       refine .region ?_
       refine .q (op_move rfl) trivial rfl ?_
       refine .q (op_addI rfl rfl ⟨by omega, by omega⟩) trivial rfl ?_
       refine .q (op_assign rfl) trivial rfl ?_
       refine .nil ?_
       exact ⟨⟨i + 1, hi, good_step hv (by first | exact .inl (by simpa using hg50) | exact .inr (.inl (by simpa using hg54)) | exact .inr (.inr (by simpa using hc57)))⟩, by show _ - (i + 1) < _ - i; omega, StLe.mk [] rfl rfl ⟨⟨_, rfl, by first | rfl | (simp only [AV.ren]; congr 1; omega), rfl⟩, ⟨_, rfl, by first | rfl | (simp only [AV.ren]; congr 1; omega), rfl⟩, trivial⟩ trivial⟩
    ·skip
     refine .no ⟨_, rfl, rfl⟩ rfl ?_
     refine .no ⟨_, rfl, rfl⟩ rfl ?_
     refine .q (op_pick_false rfl rfl rfl) trivial rfl ?_
     refine .q (op_move rfl) trivial rfl ?_
     refine .no ⟨_, rfl, rfl⟩ rfl ?_
     refine .no ⟨_, rfl, rfl⟩ rfl ?_
     refine .no ⟨_, rfl, rfl⟩ rfl ?_
     refine .no ⟨_, rfl, rfl⟩ rfl ?_
     refine .no ⟨_, rfl, rfl⟩ rfl ?_
     refine .q (op_pick_false rfl rfl rfl) trivial rfl ?_
     refine .q (op_assign rfl) trivial rfl ?_
     refine .as (.bool (dashB s i)) (by unfold dashB; rw [show (s.getD i 0 == (45 : UInt8)) = _ from hg37]; first | rfl | (rw [hg41]; rfl)) ?_
     refine .nil ?_
     show Ev _ _ _ _ _
     refine .seq ?_
     refine .region ?_
     refine .q (op_move rfl) trivial rfl ?_
     refine .q (op_notB rfl) trivial rfl ?_
     refine .q (op_move rfl) trivial rfl ?_
     refine .split (fun hg50 => ?_) (fun hg50 => ?_)
     ·skip
      refine .q (op_move rfl) ⟨_, rfl, rfl⟩ rfl ?_
      refine .q (op_notB rfl) ⟨_, rfl, rfl⟩ rfl ?_
      refine .q (op_pick_true rfl rfl rfl) trivial rfl ?_
      refine .q (op_move rfl) trivial rfl ?_
      refine .split (fun hg54 => ?_) (fun hg54 => ?_)
      ·skip
       refine .q (op_move rfl) ⟨_, rfl, rfl⟩ rfl ?_
       refine .q (op_notB rfl) ⟨_, rfl, rfl⟩ rfl ?_
       refine .q (op_pick_true rfl rfl rfl) trivial rfl ?_
       refine .nil ?_
       show Ev _ _ _ _ _
       refine .cond rfl (fun hc57 => ?_) (fun hc57 => ?_)
       ·skip
        refine .seq ?_
        refine .region ?_
        refine .q (op_assign rfl) trivial rfl ?_
        refine .nil ?_
        show Ev _ _ _ _ _
        refine .ret ?_
        show RetOk _ _ _ _ _ _ _
        exact ret1v rfl (.inl rfl) rfl (congrArg AV.bool (by first | exact rv_bad hi hg50 hg54 hc57 | (rw [← rv_end hi0 (of_decide_eq_false hc10) hv, hg61]; rfl))) trivial
       ·skip
        refine .skip ?_
        show Ev _ _ _ _ _
        refine .region ?_
        refine .q (op_move rfl) trivial rfl ?_
        refine .q (op_addI rfl rfl ⟨by omega, by omega⟩) trivial rfl ?_
        refine .q (op_assign rfl) trivial rfl ?_
        refine .nil ?_
        exact ⟨⟨i + 1, hi, good_step hv (by first | exact .inl (by simpa using hg50) | exact .inr (.inl (by simpa using hg54)) | exact .inr (.inr (by simpa using hc57)))⟩, by show _ - (i + 1) < _ - i; omega, StLe.mk [] rfl rfl ⟨⟨_, rfl, by first | rfl | (simp only [AV.ren]; congr 1; omega), rfl⟩, ⟨_, rfl, by first | rfl | (simp only [AV.ren]; congr 1; omega), rfl⟩, trivial⟩ trivial⟩
      ·skip
       refine .no ⟨_, rfl, rfl⟩ rfl ?_
       refine .no ⟨_, rfl, rfl⟩ rfl ?_
       refine .q (op_pick_false rfl rfl rfl) trivial rfl ?_
       refine .nil ?_
       show Ev _ _ _ _ _
       refine .cond_false rfl rfl ?_
       refine .skip ?_
       show Ev _ _ _ _ _
       refine .region ?_
       refine .q (op_move rfl) trivial rfl ?_
       refine .q (op_addI rfl rfl ⟨by omega, by omega⟩) trivial rfl ?_
       refine .q (op_assign rfl) trivial rfl ?_
       refine .nil ?_
       exact ⟨⟨i + 1, hi, good_step hv (by first | exact .inl (by simpa using hg50) | exact .inr (.inl (by simpa using hg54)) | exact .inr (.inr (by simpa using hc57)))⟩, by show _ - (i + 1) < _ - i; omega, StLe.mk [] rfl rfl ⟨⟨_, rfl, by first | rfl | (simp only [AV.ren]; congr 1; omega), rfl⟩, ⟨_, rfl, by first | rfl | (simp only [AV.ren]; congr 1; omega), rfl⟩, trivial⟩ trivial⟩
     ·skip
      refine .no ⟨_, rfl, rfl⟩ rfl ?_
      refine .no ⟨_, rfl, rfl⟩ rfl ?_
      refine .q (op_pick_false rfl rfl rfl) trivial rfl ?_
      refine .q (op_move rfl) trivial rfl ?_
      refine .no ⟨_, rfl, rfl⟩ rfl ?_
      refine .no ⟨_, rfl, rfl⟩ rfl ?_
      refine .q (op_pick_false rfl rfl rfl) trivial rfl ?_
      refine .nil ?_
      show Ev _ _ _ _ _
      refine .cond_false rfl rfl ?_
      refine .skip ?_
      show Ev _ _ _ _ _
      refine .region ?_
      refine .q (op_move rfl) trivial rfl ?_
      refine .q (op_addI rfl rfl ⟨by omega, by omega⟩) trivial rfl ?_
      refine .q (op_assign rfl) trivial rfl ?_
      refine .nil ?_
      exact ⟨⟨i + 1, hi, good_step hv (by first | exact .inl (by simpa using hg50) | exact .inr (.inl (by simpa using hg54)) | exact .inr (.inr (by simpa using hc57)))⟩, by show _ - (i + 1) < _ - i; omega, StLe.mk [] rfl rfl ⟨⟨_, rfl, by first | rfl | (simp only [AV.ren]; congr 1; omega), rfl⟩, ⟨_, rfl, by first | rfl | (simp only [AV.ren]; congr 1; omega), rfl⟩, trivial⟩ trivial⟩
   ·skip
    refine .no ⟨_, rfl, rfl⟩ rfl ?_
    refine .no ⟨_, rfl, rfl⟩ rfl ?_
    refine .no ⟨_, rfl, rfl⟩ rfl ?_
    refine .no ⟨_, rfl, rfl⟩ rfl ?_
    refine .q (op_pick_false rfl rfl rfl) trivial rfl ?_
    refine .q (op_assign rfl) trivial rfl ?_
    refine .as (.bool (digitB (s.getD i 0))) (by unfold digitB; rw [show decide ((48 : UInt8) ≤ s.getD i 0) = _ from hg27]; rfl) ?_
    refine .nil ?_
    show Ev _ _ _ _ _
    refine .seq ?_
    refine .region ?_
    refine .q (op_move rfl) trivial rfl ?_
    refine .q (op_move rfl) trivial rfl ?_
    refine .q (op_index_str Tryd.underlying9 rfl rfl (i := i) rfl (hi)) trivial rfl ?_
    refine .q (op_bin8 rfl rfl rfl) trivial rfl ?_
    refine .q (op_move rfl) trivial rfl ?_
    refine .split (fun hg37 => ?_) (fun hg37 => ?_)
    ·skip
     refine .q (op_move rfl) ⟨_, rfl, rfl⟩ rfl ?_
     refine .q (op_cmpI rfl rfl rfl) ⟨_, rfl, rfl⟩ rfl ?_
     refine .q (op_pick_true rfl rfl rfl) trivial rfl ?_
     refine .q (op_move rfl) trivial rfl ?_
     refine .split (fun hg41 => ?_) (fun hg41 => ?_)
     ·skip
      refine .q (op_move rfl) ⟨_, rfl, rfl⟩ rfl ?_
      refine .q (op_addI rfl rfl ⟨by omega, by omega⟩) ⟨_, rfl, rfl⟩ rfl ?_
      refine .q (op_move rfl) ⟨_, rfl, rfl⟩ rfl ?_
      refine .q (op_len_str Tryd.underlying9 rfl) ⟨_, rfl, rfl⟩ rfl ?_
      refine .q (op_cmpI rfl rfl rfl) ⟨_, rfl, rfl⟩ rfl ?_
      refine .q (op_pick_true rfl rfl rfl) trivial rfl ?_
      refine .q (op_assign rfl) trivial rfl ?_
      refine .as (.bool (dashB s i)) (by unfold dashB; rw [show (s.getD i 0 == (45 : UInt8)) = _ from hg37]; first | rfl | (rw [hg41]; rfl)) ?_
      refine .nil ?_
      show Ev _ _ _ _ _
      refine .seq ?_
      refine .region ?_
      refine .q (op_move rfl) trivial rfl ?_
      refine .q (op_notB rfl) trivial rfl ?_
      refine .q (op_move rfl) trivial rfl ?_
      refine .split (fun hg50 => ?_) (fun hg50 => ?_)
      ·skip
       refine .q (op_move rfl) ⟨_, rfl, rfl⟩ rfl ?_
       refine .q (op_notB rfl) ⟨_, rfl, rfl⟩ rfl ?_
       refine .q (op_pick_true rfl rfl rfl) trivial rfl ?_
       refine .q (op_move rfl) trivial rfl ?_
       refine .split (fun hg54 => ?_) (fun hg54 => ?_)
       ·skip
        refine .q (op_move rfl) ⟨_, rfl, rfl⟩ rfl ?_
        refine .q (op_notB rfl) ⟨_, rfl, rfl⟩ rfl ?_
        refine .q (op_pick_true rfl rfl rfl) trivial rfl ?_
        refine .nil ?_
        show Ev _ _ _ _ _
        refine .cond rfl (fun hc57 => ?_) (fun hc57 => ?_)
        ·skip
         refine .seq ?_
         refine .region ?_
         refine .q (op_assign rfl) trivial rfl ?_
         refine .nil ?_
         show Ev _ _ _ _ _
         refine .ret ?_
         show RetOk _ _ _ _ _ _ _
         exact ret1v rfl (.inl rfl) rfl (congrArg AV.bool (by first | exact rv_bad hi hg50 hg54 hc57 | (rw [← rv_end hi0 (of_decide_eq_false hc10) hv, hg61]; rfl))) trivial
        ·skip
         refine .skip ?_
         show Ev _ _ _ _ _
         refine .region ?_
         refine .q (op_move rfl) trivial rfl ?_
         refine .q (op_addI rfl rfl ⟨by omega, by omega⟩) trivial rfl ?_
         refine .q (op_assign rfl) trivial rfl ?_
         refine .nil ?_
         exact ⟨⟨i + 1, hi, good_step hv (by first | exact .inl (by simpa using hg50) | exact .inr (.inl (by simpa using hg54)) | exact .inr (.inr (by simpa using hc57)))⟩, by show _ - (i + 1) < _ - i; omega, StLe.mk [] rfl rfl ⟨⟨_, rfl, by first | rfl | (simp only [AV.ren]; congr 1; omega), rfl⟩, ⟨_, rfl, by first | rfl | (simp only [AV.ren]; congr 1; omega), rfl⟩, trivial⟩ trivial⟩
       ·skip
        refine .no ⟨_, rfl, rfl⟩ rfl ?_
        refine .no ⟨_, rfl, rfl⟩ rfl ?_
        refine .q (op_pick_false rfl rfl rfl) trivial rfl ?_
        refine .nil ?_
        show Ev _ _ _ _ _
        refine .cond_false rfl rfl ?_
        refine .skip ?_
        show Ev _ _ _ _ _
        refine .region ?_
        refine .q (op_move rfl) trivial rfl ?_
        refine .q (op_addI rfl rfl ⟨by omega, by omega⟩) trivial rfl ?_
        refine .q (op_assign rfl) trivial rfl ?_
        refine .nil ?_
        exact ⟨⟨i + 1, hi, good_step hv (by first | exact .inl (by simpa using hg50) | exact .inr (.inl (by simpa using hg54)) | exact .inr (.inr (by simpa using hc57)))⟩, by show _ - (i + 1) < _ - i; omega, StLe.mk [] rfl rfl ⟨⟨_, rfl, by first | rfl | (simp only [AV.ren]; congr 1; omega), rfl⟩, ⟨_, rfl, by first | rfl | (simp only [AV.ren]; congr 1; omega), rfl⟩, trivial⟩ trivial⟩
      ·skip
       refine .no ⟨_, rfl, rfl⟩ rfl ?_
       refine .no ⟨_, rfl, rfl⟩ rfl ?_
       refine .q (op_pick_false rfl rfl rfl) trivial rfl ?_
       refine .q (op_move rfl) trivial rfl ?_
       refine .no ⟨_, rfl, rfl⟩ rfl ?_
       refine .no ⟨_, rfl, rfl⟩ rfl ?_
       refine .q (op_pick_false rfl rfl rfl) trivial rfl ?_
       refine .nil ?_
       show Ev _ _ _ _ _
       refine .cond_false rfl rfl ?_
       refine .skip ?_
       show Ev _ _ _ _ _
       refine .region ?_
       refine .q (op_move rfl) trivial rfl ?_
       refine .q (op_addI rfl rfl ⟨by omega, by omega⟩) trivial rfl ?_
       refine .q (op_assign rfl) trivial rfl ?_
       refine .nil ?_
       exact ⟨⟨i + 1, hi, good_step hv (by first | exact .inl (by simpa using hg50) | exact .inr (.inl (by simpa using hg54)) | exact .inr (.inr (by simpa using hc57)))⟩, by show _ - (i + 1) < _ - i; omega, StLe.mk [] rfl rfl ⟨⟨_, rfl, by first | rfl | (simp only [AV.ren]; congr 1; omega), rfl⟩, ⟨_, rfl, by first | rfl | (simp only [AV.ren]; congr 1; omega), rfl⟩, trivial⟩ trivial⟩
     ·skip
      refine .no ⟨_, rfl, rfl⟩ rfl ?_
      refine .no ⟨_, rfl, rfl⟩ rfl ?_
      refine .no ⟨_, rfl, rfl⟩ rfl ?_
      refine .no ⟨_, rfl, rfl⟩ rfl ?_
      refine .no ⟨_, rfl, rfl⟩ rfl ?_
      refine .q (op_pick_false rfl rfl rfl) trivial rfl ?_
      refine .q (op_assign rfl) trivial rfl ?_
      refine .as (.bool (dashB s i)) (by unfold dashB; rw [show (s.getD i 0 == (45 : UInt8)) = _ from hg37]; first | rfl | (rw [hg41]; rfl)) ?_
      refine .nil ?_
      show Ev _ _ _ _ _
      refine .seq ?_
      refine .region ?_
      refine .q (op_move rfl) trivial rfl ?_
      refine .q (op_notB rfl) trivial rfl ?_
      refine .q (op_move rfl) trivial rfl ?_
      refine .split (fun hg50 => ?_) (fun hg50 => ?_)
      ·skip
       refine .q (op_move rfl) ⟨_, rfl, rfl⟩ rfl ?_
       refine .q (op_notB rfl) ⟨_, rfl, rfl⟩ rfl ?_
       refine .q (op_pick_true rfl rfl rfl) trivial rfl ?_
       refine .q (op_move rfl) trivial rfl ?_
       refine .split (fun hg54 => ?_) (fun hg54 => ?_)
       ·skip
        refine .q (op_move rfl) ⟨_, rfl, rfl⟩ rfl ?_
        refine .q (op_notB rfl) ⟨_, rfl, rfl⟩ rfl ?_
        refine .q (op_pick_true rfl rfl rfl) trivial rfl ?_
        refine .nil ?_
        show Ev _ _ _ _ _
        refine .cond rfl (fun hc57 => ?_) (fun hc57 => ?_)
        ·skip
         refine .seq ?_
         refine .region ?_
         refine .q (op_assign rfl) trivial rfl ?_
         refine .nil ?_
         show Ev _ _ _ _ _
         refine .ret ?_
         show RetOk _ _ _ _ _ _ _
         exact ret1v rfl (.inl rfl) rfl (congrArg AV.bool (by first | exact rv_bad hi hg50 hg54 hc57 | (rw [← rv_end hi0 (of_decide_eq_false hc10) hv, hg61]; rfl))) trivial
        ·skip
         refine .skip ?_
         show Ev _ _ _ _ _
         refine .region ?_
         refine .q (op_move rfl) trivial rfl ?_
         refine .q (op_addI rfl rfl ⟨by omega, by omega⟩) trivial rfl ?_
         refine .q (op_assign rfl) trivial rfl ?_
         refine .nil ?_
         exact ⟨⟨i + 1, hi, good_step hv (by first | exact .inl (by simpa using hg50) | exact .inr (.inl (by simpa using hg54)) | exact .inr (.inr (by simpa using hc57)))⟩, by show _ - (i + 1) < _ - i; omega, StLe.mk [] rfl rfl ⟨⟨_, rfl, by first | rfl | (simp only [AV.ren]; congr 1; omega), rfl⟩, ⟨_, rfl, by first | rfl | (simp only [AV.ren]; congr 1; omega), rfl⟩, trivial⟩ trivial⟩
       ·skip
        refine .no ⟨_, rfl, rfl⟩ rfl ?_
        refine .no ⟨_, rfl, rfl⟩ rfl ?_
        refine .q (op_pick_false rfl rfl rfl) trivial rfl ?_
        refine .nil ?_
        show Ev _ _ _ _ _
        refine .cond_false rfl rfl ?_
        refine .skip ?_
        show Ev _ _ _ _ _
        refine .region ?_
        refine .q (op_move rfl) trivial rfl ?_
        refine .q (op_addI rfl rfl ⟨by omega, by omega⟩) trivial rfl ?_
        refine .q (op_assign rfl) trivial rfl ?_
        refine .nil ?_
        exact ⟨⟨i + 1, hi, good_step hv (by first | exact .inl (by simpa using hg50) | exact .inr (.inl (by simpa using hg54)) | exact .inr (.inr (by simpa using hc57)))⟩, by show _ - (i + 1) < _ - i; omega, StLe.mk [] rfl rfl ⟨⟨_, rfl, by first | rfl | (simp only [AV.ren]; congr 1; omega), rfl⟩, ⟨_, rfl, by first | rfl | (simp only [AV.ren]; congr 1; omega), rfl⟩, trivial⟩ trivial⟩
      ·skip
       refine .no ⟨_, rfl, rfl⟩ rfl ?_
       refine .no ⟨_, rfl, rfl⟩ rfl ?_
       refine .q (op_pick_false rfl rfl rfl) trivial rfl ?_
       refine .q (op_move rfl) trivial rfl ?_
       refine .no ⟨_, rfl, rfl⟩ rfl ?_
       refine .no ⟨_, rfl, rfl⟩ rfl ?_
       refine .q (op_pick_false rfl rfl rfl) trivial rfl ?_
       refine .nil ?_
       show Ev _ _ _ _ _
       refine .cond_false rfl rfl ?_
       refine .skip ?_
       show Ev _ _ _ _ _
       refine .region ?_
       refine .q (op_move rfl) trivial rfl ?_
       refine .q (op_addI rfl rfl ⟨by omega, by omega⟩) trivial rfl ?_
       refine .q (op_assign rfl) trivial rfl ?_
       refine .nil ?_
       exact ⟨⟨i + 1, hi, good_step hv (by first | exact .inl (by simpa using hg50) | exact .inr (.inl (by simpa using hg54)) | exact .inr (.inr (by simpa using hc57)))⟩, by show _ - (i + 1) < _ - i; omega, StLe.mk [] rfl rfl ⟨⟨_, rfl, by first | rfl | (simp only [AV.ren]; congr 1; omega), rfl⟩, ⟨_, rfl, by first | rfl | (simp only [AV.ren]; congr 1; omega), rfl⟩, trivial⟩ trivial⟩
    ·skip
     refine .no ⟨_, rfl, rfl⟩ rfl ?_
     refine .no ⟨_, rfl, rfl⟩ rfl ?_
     refine .q (op_pick_false rfl rfl rfl) trivial rfl ?_
     refine .q (op_move rfl) trivial rfl ?_
     refine .no ⟨_, rfl, rfl⟩ rfl ?_
     refine .no ⟨_, rfl, rfl⟩ rfl ?_
     refine .no ⟨_, rfl, rfl⟩ rfl ?_
     refine .no ⟨_, rfl, rfl⟩ rfl ?_
     refine .no ⟨_, rfl, rfl⟩ rfl ?_
     refine .q (op_pick_false rfl rfl rfl) trivial rfl ?_
     refine .q (op_assign rfl) trivial rfl ?_
     refine .as (.bool (dashB s i)) (by unfold dashB; rw [show (s.getD i 0 == (45 : UInt8)) = _ from hg37]; first | rfl | (rw [hg41]; rfl)) ?_
     refine .nil ?_
     show Ev _ _ _ _ _
     refine .seq ?_
     refine .region ?_
     refine .q (op_move rfl) trivial rfl ?_
     refine .q (op_notB rfl) trivial rfl ?_
     refine .q (op_move rfl) trivial rfl ?_
     refine .split (fun hg50 => ?_) (fun hg50 => ?_)
     ·skip
      refine .q (op_move rfl) ⟨_, rfl, rfl⟩ rfl ?_
      refine .q (op_notB rfl) ⟨_, rfl, rfl⟩ rfl ?_
      refine .q (op_pick_true rfl rfl rfl) trivial rfl ?_
      refine .q (op_move rfl) trivial rfl ?_
      refine .split (fun hg54 => ?_) (fun hg54 => ?_)
      ·skip
       refine .q (op_move rfl) ⟨_, rfl, rfl⟩ rfl ?_
       refine .q (op_notB rfl) ⟨_, rfl, rfl⟩ rfl ?_
       refine .q (op_pick_true rfl rfl rfl) trivial rfl ?_
       refine .nil ?_
       show Ev _ _ _ _ _
       refine .cond rfl (fun hc57 => ?_) (fun hc57 => ?_)
       ·skip
        refine .seq ?_
        refine .region ?_
        refine .q (op_assign rfl) trivial rfl ?_
        refine .nil ?_
        show Ev _ _ _ _ _
        refine .ret ?_
        show RetOk _ _ _ _ _ _ _
        exact ret1v rfl (.inl rfl) rfl (congrArg AV.bool (by first | exact rv_bad hi hg50 hg54 hc57 | (rw [← rv_end hi0 (of_decide_eq_false hc10) hv, hg61]; rfl))) trivial
       ·skip
        refine .skip ?_
        show Ev _ _ _ _ _
        refine .region ?_
        refine .q (op_move rfl) trivial rfl ?_
        refine .q (op_addI rfl rfl ⟨by omega, by omega⟩) trivial rfl ?_
        refine .q (op_assign rfl) trivial rfl ?_
        refine .nil ?_
        exact ⟨⟨i + 1, hi, good_step hv (by first | exact .inl (by simpa using hg50) | exact .inr (.inl (by simpa using hg54)) | exact .inr (.inr (by simpa using hc57)))⟩, by show _ - (i + 1) < _ - i; omega, StLe.mk [] rfl rfl ⟨⟨_, rfl, by first | rfl | (simp only [AV.ren]; congr 1; omega), rfl⟩, ⟨_, rfl, by first | rfl | (simp only [AV.ren]; congr 1; omega), rfl⟩, trivial⟩ trivial⟩
      ·skip
       refine .no ⟨_, rfl, rfl⟩ rfl ?_
       refine .no ⟨_, rfl, rfl⟩ rfl ?_
       refine .q (op_pick_false rfl rfl rfl) trivial rfl ?_
       refine .nil ?_
       show Ev _ _ _ _ _
       refine .cond_false rfl rfl ?_
       refine .skip ?_
       show Ev _ _ _ _ _
       refine .region ?_
       refine .q (op_move rfl) trivial rfl ?_
       refine .q (op_addI rfl rfl ⟨by omega, by omega⟩) trivial rfl ?_
       refine .q (op_assign rfl) trivial rfl ?_
       refine .nil ?_
       exact ⟨⟨i + 1, hi, good_step hv (by first | exact .inl (by simpa using hg50) | exact .inr (.inl (by simpa using hg54)) | exact .inr (.inr (by simpa using hc57)))⟩, by show _ - (i + 1) < _ - i; omega, StLe.mk [] rfl rfl ⟨⟨_, rfl, by first | rfl | (simp only [AV.ren]; congr 1; omega), rfl⟩, ⟨_, rfl, by first | rfl | (simp only [AV.ren]; congr 1; omega), rfl⟩, trivial⟩ trivial⟩
     ·skip
      refine .no ⟨_, rfl, rfl⟩ rfl ?_
      refine .no ⟨_, rfl, rfl⟩ rfl ?_
      refine .q (op_pick_false rfl rfl rfl) trivial rfl ?_
      refine .q (op_move rfl) trivial rfl ?_
      refine .no ⟨_, rfl, rfl⟩ rfl ?_
      refine .no ⟨_, rfl, rfl⟩ rfl ?_
      refine .q (op_pick_false rfl rfl rfl) trivial rfl ?_
      refine .nil ?_
      show Ev _ _ _ _ _
      refine .cond_false rfl rfl ?_
      refine .skip ?_
      show Ev _ _ _ _ _
      refine .region ?_
      refine .q (op_move rfl) trivial rfl ?_
      refine .q (op_addI rfl rfl ⟨by omega, by omega⟩) trivial rfl ?_
      refine .q (op_assign rfl) trivial rfl ?_
      refine .nil ?_
      exact ⟨⟨i + 1, hi, good_step hv (by first | exact .inl (by simpa using hg50) | exact .inr (.inl (by simpa using hg54)) | exact .inr (.inr (by simpa using hc57)))⟩, by show _ - (i + 1) < _ - i; omega, StLe.mk [] rfl rfl ⟨⟨_, rfl, by first | rfl | (simp only [AV.ren]; congr 1; omega), rfl⟩, ⟨_, rfl, by first | rfl | (simp only [AV.ren]; congr 1; omega), rfl⟩, trivial⟩ trivial⟩
 ·skip
  refine .exit ?_
  show Ev _ _ _ _ _
  refine .seq ?_
  refine .region ?_
  refine .q (op_move rfl) trivial rfl ?_
  refine .q (op_len_str Tryd.underlying9 rfl) trivial rfl ?_
  refine .q (op_cmpI rfl rfl rfl) trivial rfl ?_
  refine .q (op_move rfl) trivial rfl ?_
  refine .split (fun hg61 => ?_) (fun hg61 => ?_)
  ·skip
   refine .q (op_move rfl) ⟨_, rfl, rfl⟩ rfl ?_
   refine .q (op_len_str Tryd.underlying9 rfl) ⟨_, rfl, rfl⟩ rfl ?_
   refine .q (op_cmpI rfl rfl rfl) ⟨_, rfl, rfl⟩ rfl ?_
   refine .q (op_pick_true rfl rfl rfl) trivial rfl ?_
   refine .q (op_assign rfl) trivial rfl ?_
   refine .nil ?_
   show Ev _ _ _ _ _
   refine .ret ?_
   show RetOk _ _ _ _ _ _ _
   exact ret1v rfl (.inl rfl) rfl (congrArg AV.bool (by first | exact rv_bad hi hg50 hg54 hc57 | (rw [← rv_end hi0 (of_decide_eq_false hc10) hv, hg61]; rfl))) trivial
  ·skip
   refine .no ⟨_, rfl, rfl⟩ rfl ?_
   refine .no ⟨_, rfl, rfl⟩ rfl ?_
   refine .no ⟨_, rfl, rfl⟩ rfl ?_
   refine .q (op_pick_false rfl rfl rfl) trivial rfl ?_
   refine .q (op_assign rfl) trivial rfl ?_
   refine .nil ?_
   show Ev _ _ _ _ _
   refine .ret ?_
   show RetOk _ _ _ _ _ _ _
   exact ret1v rfl (.inl rfl) rfl (congrArg AV.bool (by first | exact rv_bad hi hg50 hg54 hc57 | (rw [← rv_end hi0 (of_decide_eq_false hc10) hv, hg61]; rfl))) trivial
set_option maxRecDepth 100000 in
theorem rtakeV1_ev (a b c ep : Int) (L : List Ls) (hlen : L.length ≤ 4096) (t al : List UInt8) (w now : Int) (ht : t.length ≤ 9223372036854775000) (ha : al.length ≤ 9223372036854775000) (hvt : nameN t = false)  : Meets Tryd.prog 34 [.agg [.i64 a, .i64 b, .i64 c, .i64 ep, .fsl (lsC L) L.length 5], .str t, .str al, .i64 w, .i64 now] [] (.tup [.agg [.i64 a, .i64 b, .i64 c, .i64 ep, .fsl (lsC L) L.length 5], .agg [.str [], .str [], .i64 0, .i64 0, .i64 0], .i64 (-1), .i64 17]) [] := by
 refine meets_of_ev (nt := 151) Tryd.func34 rfl rfl (Nat.le_of_ble_eq_true rfl) ?_
 refine .seq ?_
 refine .region ?_
 refine .a (op_boxRow rfl rfl) trivial rfl ?_
 refine .a (op_allocRow zero32 rel_zero32 rfl) trivial rfl ?_
 refine .a (op_allocRow zero70 rel_zero70 rfl) trivial rfl ?_
 refine .q (op_assign rfl) trivial rfl ?_
 refine .q (op_assign rfl) trivial rfl ?_
 refine .nil ?_
 show Ev _ _ _ _ _
 refine .seq ?_
 refine .seq ?_
 refine .region ?_
 refine .q (op_move rfl) trivial rfl ?_
 refine .q (op_call (U := []) [] [] (rvalid_ev t ht) Tryd.func10 (by kernel_rfl) rfl rfl rfl (⟨⟨_, rfl, rfl, rfl⟩, trivial⟩) (trivial) (trivial) (trivial) rfl) trivial rfl ?_
 refine .q (op_notB rfl) trivial rfl ?_
 refine .q (op_move rfl) trivial rfl ?_
 refine .know (b' := true) (by show (!nameN _) = true; rw [hvt]; rfl) ?_
 refine .no ⟨_, rfl, rfl⟩ rfl ?_
 refine .no ⟨_, rfl, rfl⟩ rfl ?_
 refine .no ⟨_, rfl, rfl⟩ rfl ?_
 refine .q (op_pick_true rfl rfl rfl) trivial rfl ?_
 refine .nil ?_
 show Ev _ _ _ _ _
 refine .cond_true rfl rfl ?_
 refine .seq ?_
 refine .region ?_
 refine .q (op_loadRow Tryd.underlying32 rfl (by kernel_rfl) rfl rfl rfl (rfl)) trivial rfl ?_
 refine .q (op_buildS (r := .agg _) Tryd.underlying70 rfl zero70 rel_zero70 rfl rfl rfl rfl) trivial rfl ?_
 refine .w (op_storeRow (by kernel_rfl) rfl rfl rfl rfl rfl (rfl) (rfl)) trivial rfl ?_
 refine .w (op_storeRow (by kernel_rfl) rfl rfl rfl rfl rfl (rfl) (rfl)) trivial rfl ?_
 refine .q (op_assign rfl) trivial rfl ?_
 refine .q (op_assign rfl) trivial rfl ?_
 refine .nil ?_
 show Ev _ _ _ _ _
 refine .ret ?_
 show RetOk _ _ _ _ _ _ _
 exact retc4 rfl (.inl rfl) ⟨_, _, _, _, rfl, rfl, rfl, rfl, rfl, Tryd.underlying32, rfl, sz32⟩ ⟨_, _, _, _, rfl, rfl, rfl, rfl, rfl, Tryd.underlying70, rfl, sz70⟩ rfl rfl trivial
set_option maxRecDepth 100000 in
theorem rtakeV2_ev (a b c ep : Int) (L : List Ls) (hlen : L.length ≤ 4096) (t al : List UInt8) (w now : Int) (ht : t.length ≤ 9223372036854775000) (ha : al.length ≤ 9223372036854775000) (hvt : nameN t = true) (hva : nameN al = false)  : Meets Tryd.prog 34 [.agg [.i64 a, .i64 b, .i64 c, .i64 ep, .fsl (lsC L) L.length 5], .str t, .str al, .i64 w, .i64 now] [] (.tup [.agg [.i64 a, .i64 b, .i64 c, .i64 ep, .fsl (lsC L) L.length 5], .agg [.str [], .str [], .i64 0, .i64 0, .i64 0], .i64 (-1), .i64 17]) [] := by
 refine meets_of_ev (nt := 151) Tryd.func34 rfl rfl (Nat.le_of_ble_eq_true rfl) ?_
 refine .seq ?_
 refine .region ?_
 refine .a (op_boxRow rfl rfl) trivial rfl ?_
 refine .a (op_allocRow zero32 rel_zero32 rfl) trivial rfl ?_
 refine .a (op_allocRow zero70 rel_zero70 rfl) trivial rfl ?_
 refine .q (op_assign rfl) trivial rfl ?_
 refine .q (op_assign rfl) trivial rfl ?_
 refine .nil ?_
 show Ev _ _ _ _ _
 refine .seq ?_
 refine .seq ?_
 refine .region ?_
 refine .q (op_move rfl) trivial rfl ?_
 refine .q (op_call (U := []) [] [] (rvalid_ev t ht) Tryd.func10 (by kernel_rfl) rfl rfl rfl (⟨⟨_, rfl, rfl, rfl⟩, trivial⟩) (trivial) (trivial) (trivial) rfl) trivial rfl ?_
 refine .q (op_notB rfl) trivial rfl ?_
 refine .q (op_move rfl) trivial rfl ?_
 refine .know (b' := false) (by show (!nameN _) = false; rw [hvt]; rfl) ?_
 refine .q (op_move rfl) ⟨_, rfl, rfl⟩ rfl ?_
 refine .q (op_call (U := []) [] [] (rvalid_ev al ha) Tryd.func10 (by kernel_rfl) rfl rfl rfl (⟨⟨_, rfl, rfl, rfl⟩, trivial⟩) (trivial) (trivial) (trivial) rfl) ⟨_, rfl, rfl⟩ rfl ?_
 refine .q (op_notB rfl) ⟨_, rfl, rfl⟩ rfl ?_
 refine .q (op_pick_false rfl rfl rfl) trivial rfl ?_
 refine .nil ?_
 show Ev _ _ _ _ _
 refine .cond_true rfl (by first | rfl | (show (!nameN _) = true; rw [hva]; rfl)) ?_
 refine .seq ?_
 refine .region ?_
 refine .q (op_loadRow Tryd.underlying32 rfl (by kernel_rfl) rfl rfl rfl (rfl)) trivial rfl ?_
 refine .q (op_buildS (r := .agg _) Tryd.underlying70 rfl zero70 rel_zero70 rfl rfl rfl rfl) trivial rfl ?_
 refine .w (op_storeRow (by kernel_rfl) rfl rfl rfl rfl rfl (rfl) (rfl)) trivial rfl ?_
 refine .w (op_storeRow (by kernel_rfl) rfl rfl rfl rfl rfl (rfl) (rfl)) trivial rfl ?_
 refine .q (op_assign rfl) trivial rfl ?_
 refine .q (op_assign rfl) trivial rfl ?_
 refine .nil ?_
 show Ev _ _ _ _ _
 refine .ret ?_
 show RetOk _ _ _ _ _ _ _
 exact retc4 rfl (.inl rfl) ⟨_, _, _, _, rfl, rfl, rfl, rfl, rfl, Tryd.underlying32, rfl, sz32⟩ ⟨_, _, _, _, rfl, rfl, rfl, rfl, rfl, Tryd.underlying70, rfl, sz70⟩ rfl rfl trivial
set_option maxRecDepth 100000 in
theorem rtakeH_ev (a b c ep : Int) (L : List Ls) (hlen : L.length ≤ 4096) (t al : List UInt8) (w now : Int) (ht : t.length ≤ 9223372036854775000) (ha : al.length ≤ 9223372036854775000) (hvt : nameN t = true) (hva : nameN al = true) (k : Nat) (hk : atI t al 0 L = ((k : Nat) : Int)) (hi : k < L.length) (hw : (L.getD k default).o = w)  : Meets Tryd.prog 34 [.agg [.i64 a, .i64 b, .i64 c, .i64 ep, .fsl (lsC L) L.length 5], .str t, .str al, .i64 w, .i64 now] [] (.tup [.agg [.i64 a, .i64 b, .i64 c, .i64 ep, .fsl (lsC L) L.length 5], .agg [.str [], .str [], .i64 0, .i64 0, .i64 0], .i64 (-1), .i64 9]) [] := by
 refine meets_of_ev (nt := 151) Tryd.func34 rfl rfl (Nat.le_of_ble_eq_true rfl) ?_
 refine .seq ?_
 refine .region ?_
 refine .a (op_boxRow rfl rfl) trivial rfl ?_
 refine .a (op_allocRow zero32 rel_zero32 rfl) trivial rfl ?_
 refine .a (op_allocRow zero70 rel_zero70 rfl) trivial rfl ?_
 refine .q (op_assign rfl) trivial rfl ?_
 refine .q (op_assign rfl) trivial rfl ?_
 refine .nil ?_
 show Ev _ _ _ _ _
 refine .seq ?_
 refine .seq ?_
 refine .region ?_
 refine .q (op_move rfl) trivial rfl ?_
 refine .q (op_call (U := []) [] [] (rvalid_ev t ht) Tryd.func10 (by kernel_rfl) rfl rfl rfl (⟨⟨_, rfl, rfl, rfl⟩, trivial⟩) (trivial) (trivial) (trivial) rfl) trivial rfl ?_
 refine .q (op_notB rfl) trivial rfl ?_
 refine .q (op_move rfl) trivial rfl ?_
 refine .know (b' := false) (by show (!nameN _) = false; rw [hvt]; rfl) ?_
 refine .q (op_move rfl) ⟨_, rfl, rfl⟩ rfl ?_
 refine .q (op_call (U := []) [] [] (rvalid_ev al ha) Tryd.func10 (by kernel_rfl) rfl rfl rfl (⟨⟨_, rfl, rfl, rfl⟩, trivial⟩) (trivial) (trivial) (trivial) rfl) ⟨_, rfl, rfl⟩ rfl ?_
 refine .q (op_notB rfl) ⟨_, rfl, rfl⟩ rfl ?_
 refine .q (op_pick_false rfl rfl rfl) trivial rfl ?_
 refine .nil ?_
 show Ev _ _ _ _ _
 refine .cond_false rfl (by first | rfl | (show (!nameN _) = false; rw [hva]; rfl)) ?_
 refine .skip ?_
 show Ev _ _ _ _ _
 refine .seq ?_
 refine .region ?_
 refine .q (op_loadRow Tryd.underlying32 rfl (by kernel_rfl) rfl rfl rfl (rfl)) trivial rfl ?_
 refine .q (op_move rfl) trivial rfl ?_
 refine .q (op_move rfl) trivial rfl ?_
 refine .q (op_call (U := []) [] [] (rat_ev a b c ep L hlen t al) Tryd.func31 (by kernel_rfl) rfl rfl rfl (⟨⟨_, rfl, rfl, rfl⟩, ⟨_, rfl, rfl, rfl⟩, ⟨_, rfl, rfl, rfl⟩, trivial⟩) (trivial) (trivial) (trivial) rfl) trivial rfl ?_
 refine .as (.i64 ((k : Nat) : Int)) (congrArg AV.i64 hk) ?_
 refine .q (op_assign rfl) trivial rfl ?_
 refine .nil ?_
 show Ev _ _ _ _ _
 refine .seq ?_
 refine .region ?_
 refine .q (op_assign rfl) trivial rfl ?_
 refine .nil ?_
 show Ev _ _ _ _ _
 refine .seq ?_
 refine .seq ?_
 refine .region ?_
 refine .q (op_move rfl) trivial rfl ?_
 refine .q (op_cmpI rfl rfl rfl) trivial rfl ?_
 refine .q (op_move rfl) trivial rfl ?_
 refine .know (b' := true) (decide_eq_true (by omega)) ?_
 refine .q (op_fieldAddr (m := 0) Tryd.underlying32 rfl (by kernel_rfl) rfl) ⟨_, rfl, rfl⟩ rfl ?_
 refine .as (.ptr 1000 4) rfl ?_
 refine .q (op_load Tryd.underlying30 rfl rfl rfl rfl (by show 4 < 5; decide)) ⟨_, rfl, rfl⟩ rfl ?_
 refine .q (op_move rfl) ⟨_, rfl, rfl⟩ rfl ?_
 refine .q (op_indexAddr_fsl Tryd.underlying30 infLeaseR.sz (by decide) rfl rfl (i := k) rfl (hi)) ⟨_, rfl, rfl⟩ rfl ?_
 refine .q (op_fieldAddr_fptr (m := 0) Tryd.underlying70 rfl (by kernel_rfl) rfl (ls_long hi)) ⟨_, rfl, rfl⟩ rfl ?_
 refine .q (op_load_fptr Tryd.underlying3 rfl rfl (ls_owner hi)) ⟨_, rfl, rfl⟩ rfl ?_
 refine .q (op_move rfl) ⟨_, rfl, rfl⟩ rfl ?_
 refine .q (op_cmpI rfl rfl rfl) ⟨_, rfl, rfl⟩ rfl ?_
 refine .q (op_pick_true rfl rfl rfl) trivial rfl ?_
 refine .nil ?_
 show Ev _ _ _ _ _
 refine .cond_true rfl (by show ((L.getD k default).o == w) = true; simpa using hw) ?_
 refine .seq ?_
 refine .region ?_
 refine .q (op_loadRow Tryd.underlying32 rfl (by kernel_rfl) rfl rfl rfl (rfl)) trivial rfl ?_
 refine .q (op_buildS (r := .agg _) Tryd.underlying70 rfl zero70 rel_zero70 rfl rfl rfl rfl) trivial rfl ?_
 refine .w (op_storeRow (by kernel_rfl) rfl rfl rfl rfl rfl (rfl) (rfl)) trivial rfl ?_
 refine .w (op_storeRow (by kernel_rfl) rfl rfl rfl rfl rfl (rfl) (rfl)) trivial rfl ?_
 refine .q (op_assign rfl) trivial rfl ?_
 refine .q (op_assign rfl) trivial rfl ?_
 refine .nil ?_
 show Ev _ _ _ _ _
 refine .ret ?_
 show RetOk _ _ _ _ _ _ _
 exact retc4 rfl (.inl rfl) ⟨_, _, _, _, rfl, rfl, rfl, rfl, rfl, Tryd.underlying32, rfl, sz32⟩ ⟨_, _, _, _, rfl, rfl, rfl, rfl, rfl, Tryd.underlying70, rfl, sz70⟩ rfl rfl trivial
set_option maxRecDepth 100000 in
theorem rtakeQ_ev (a b c ep : Int) (L : List Ls) (hlen : L.length ≤ 4096) (t al : List UInt8) (w now : Int) (ht : t.length ≤ 9223372036854775000) (ha : al.length ≤ 9223372036854775000) (hvt : nameN t = true) (hva : nameN al = true) (hk : atI t al 0 L = -1) (hq : a ≤ ((L.filter (fun x => x.t == t)).length : Nat))  : Meets Tryd.prog 34 [.agg [.i64 a, .i64 b, .i64 c, .i64 ep, .fsl (lsC L) L.length 5], .str t, .str al, .i64 w, .i64 now] [] (.tup [.agg [.i64 a, .i64 b, .i64 c, .i64 ep, .fsl (lsC L) L.length 5], .agg [.str [], .str [], .i64 0, .i64 0, .i64 0], .i64 (-1), .i64 16]) [] := by
 refine meets_of_ev (nt := 151) Tryd.func34 rfl rfl (Nat.le_of_ble_eq_true rfl) ?_
 refine .seq ?_
 refine .region ?_
 refine .a (op_boxRow rfl rfl) trivial rfl ?_
 refine .a (op_allocRow zero32 rel_zero32 rfl) trivial rfl ?_
 refine .a (op_allocRow zero70 rel_zero70 rfl) trivial rfl ?_
 refine .q (op_assign rfl) trivial rfl ?_
 refine .q (op_assign rfl) trivial rfl ?_
 refine .nil ?_
 show Ev _ _ _ _ _
 refine .seq ?_
 refine .seq ?_
 refine .region ?_
 refine .q (op_move rfl) trivial rfl ?_
 refine .q (op_call (U := []) [] [] (rvalid_ev t ht) Tryd.func10 (by kernel_rfl) rfl rfl rfl (⟨⟨_, rfl, rfl, rfl⟩, trivial⟩) (trivial) (trivial) (trivial) rfl) trivial rfl ?_
 refine .q (op_notB rfl) trivial rfl ?_
 refine .q (op_move rfl) trivial rfl ?_
 refine .know (b' := false) (by show (!nameN _) = false; rw [hvt]; rfl) ?_
 refine .q (op_move rfl) ⟨_, rfl, rfl⟩ rfl ?_
 refine .q (op_call (U := []) [] [] (rvalid_ev al ha) Tryd.func10 (by kernel_rfl) rfl rfl rfl (⟨⟨_, rfl, rfl, rfl⟩, trivial⟩) (trivial) (trivial) (trivial) rfl) ⟨_, rfl, rfl⟩ rfl ?_
 refine .q (op_notB rfl) ⟨_, rfl, rfl⟩ rfl ?_
 refine .q (op_pick_false rfl rfl rfl) trivial rfl ?_
 refine .nil ?_
 show Ev _ _ _ _ _
 refine .cond_false rfl (by first | rfl | (show (!nameN _) = false; rw [hva]; rfl)) ?_
 refine .skip ?_
 show Ev _ _ _ _ _
 refine .seq ?_
 refine .region ?_
 refine .q (op_loadRow Tryd.underlying32 rfl (by kernel_rfl) rfl rfl rfl (rfl)) trivial rfl ?_
 refine .q (op_move rfl) trivial rfl ?_
 refine .q (op_move rfl) trivial rfl ?_
 refine .q (op_call (U := []) [] [] (rat_ev a b c ep L hlen t al) Tryd.func31 (by kernel_rfl) rfl rfl rfl (⟨⟨_, rfl, rfl, rfl⟩, ⟨_, rfl, rfl, rfl⟩, ⟨_, rfl, rfl, rfl⟩, trivial⟩) (trivial) (trivial) (trivial) rfl) trivial rfl ?_
 refine .as (.i64 (-1)) (congrArg AV.i64 hk) ?_
 refine .q (op_assign rfl) trivial rfl ?_
 refine .nil ?_
 show Ev _ _ _ _ _
 refine .seq ?_
 refine .region ?_
 refine .q (op_assign rfl) trivial rfl ?_
 refine .nil ?_
 show Ev _ _ _ _ _
 refine .seq ?_
 refine .seq ?_
 refine .region ?_
 refine .q (op_move rfl) trivial rfl ?_
 refine .q (op_cmpI rfl rfl rfl) trivial rfl ?_
 refine .q (op_move rfl) trivial rfl ?_
 refine .know (b' := false) (rfl) ?_
 refine .no ⟨_, rfl, rfl⟩ rfl ?_
 refine .no ⟨_, rfl, rfl⟩ rfl ?_
 refine .no ⟨_, rfl, rfl⟩ rfl ?_
 refine .no ⟨_, rfl, rfl⟩ rfl ?_
 refine .no ⟨_, rfl, rfl⟩ rfl ?_
 refine .no ⟨_, rfl, rfl⟩ rfl ?_
 refine .no ⟨_, rfl, rfl⟩ rfl ?_
 refine .no ⟨_, rfl, rfl⟩ rfl ?_
 refine .q (op_pick_false rfl rfl rfl) trivial rfl ?_
 refine .nil ?_
 show Ev _ _ _ _ _
 refine .cond_false rfl rfl ?_
 refine .skip ?_
 show Ev _ _ _ _ _
 refine .seq ?_
 refine .seq ?_
 refine .region ?_
 refine .q (op_move rfl) trivial rfl ?_
 refine .q (op_cmpI rfl rfl rfl) trivial rfl ?_
 refine .nil ?_
 show Ev _ _ _ _ _
 refine .cond_false rfl (rfl) ?_
 refine .skip ?_
 show Ev _ _ _ _ _
 refine .seq ?_
 refine .seq ?_
 refine .drawn [[], [0], [0, 1], [0, 1, 2], [0, 1, 2], [0, 1, 2, 3, 4], [0, 1, 2], [0, 1, 2, 6], [0, 1, 2, 3, 4, 5, 6, 7], [0, 1, 2, 3, 4, 5, 6, 7, 8]] [3, 5, 7] [] (by kernel_rfl) (by kernel_rfl) rfl ?_
 show DK _ [0, 1, 2, 3, 4, 5, 6, 7, 8, 9] _ _ _
 refine .q rfl (op_move rfl) trivial ?_
 refine .q rfl (op_cmpI rfl rfl rfl) trivial ?_
 refine .q rfl (op_move rfl) trivial ?_
 refine .know (b' := true) (rfl) ?_
 refine .q rfl (op_loadRow Tryd.underlying32 rfl (by kernel_rfl) rfl rfl rfl (rfl)) ⟨_, rfl, rfl⟩ ?_
 refine .q rfl (op_move rfl) ⟨_, rfl, rfl⟩ ?_
 refine .q rfl (op_call (U := []) [] [] (rcount_ev a b c ep L hlen t) Tryd.func18 (by kernel_rfl) rfl rfl rfl (⟨⟨_, rfl, rfl, rfl⟩, ⟨_, rfl, rfl, rfl⟩, trivial⟩) (trivial) (trivial) (trivial) rfl) ⟨_, rfl, rfl⟩ ?_
 refine .q rfl (op_fieldAddr (m := 0) Tryd.underlying32 rfl (by kernel_rfl) rfl) ⟨_, rfl, rfl⟩ ?_
 refine .as (.ptr 1000 0) rfl ?_
 refine .q rfl (op_load Tryd.underlying3 rfl rfl rfl rfl (by show 0 < 5; decide)) ⟨_, rfl, rfl⟩ ?_
 refine .q rfl (op_cmpI rfl rfl rfl) ⟨_, rfl, rfl⟩ ?_
 refine .q rfl (op_pick_true rfl rfl rfl) trivial ?_
 refine .nil ?_
 show Ev _ _ _ _ _
 refine .cond_true rfl (decide_eq_true hq) ?_
 refine .seq ?_
 refine .region ?_
 refine .q (op_loadRow Tryd.underlying32 rfl (by kernel_rfl) rfl rfl rfl (rfl)) trivial rfl ?_
 refine .q (op_buildS (r := .agg _) Tryd.underlying70 rfl zero70 rel_zero70 rfl rfl rfl rfl) trivial rfl ?_
 refine .w (op_storeRow (by kernel_rfl) rfl rfl rfl rfl rfl (rfl) (rfl)) trivial rfl ?_
 refine .w (op_storeRow (by kernel_rfl) rfl rfl rfl rfl rfl (rfl) (rfl)) trivial rfl ?_
 refine .q (op_assign rfl) trivial rfl ?_
 refine .q (op_assign rfl) trivial rfl ?_
 refine .nil ?_
 show Ev _ _ _ _ _
 refine .ret ?_
 show RetOk _ _ _ _ _ _ _
 exact retc4 rfl (.inl rfl) ⟨_, _, _, _, rfl, rfl, rfl, rfl, rfl, Tryd.underlying32, rfl, sz32⟩ ⟨_, _, _, _, rfl, rfl, rfl, rfl, rfl, Tryd.underlying70, rfl, sz70⟩ rfl rfl trivial
set_option maxRecDepth 100000 in
theorem rtakeF_ev (a b c ep : Int) (L : List Ls) (hlen : L.length ≤ 4096) (t al : List UInt8) (w now : Int) (ht : t.length ≤ 9223372036854775000) (ha : al.length ≤ 9223372036854775000) (hvt : nameN t = true) (hva : nameN al = true) (hk : atI t al 0 L = -1) (hq : ¬ a ≤ ((L.filter (fun x => x.t == t)).length : Nat)) (hf : b ≤ (L.length : Nat))  : Meets Tryd.prog 34 [.agg [.i64 a, .i64 b, .i64 c, .i64 ep, .fsl (lsC L) L.length 5], .str t, .str al, .i64 w, .i64 now] [] (.tup [.agg [.i64 a, .i64 b, .i64 c, .i64 ep, .fsl (lsC L) L.length 5], .agg [.str [], .str [], .i64 0, .i64 0, .i64 0], .i64 (-1), .i64 7]) [] := by
 refine meets_of_ev (nt := 151) Tryd.func34 rfl rfl (Nat.le_of_ble_eq_true rfl) ?_
 refine .seq ?_
 refine .region ?_
 refine .a (op_boxRow rfl rfl) trivial rfl ?_
 refine .a (op_allocRow zero32 rel_zero32 rfl) trivial rfl ?_
 refine .a (op_allocRow zero70 rel_zero70 rfl) trivial rfl ?_
 refine .q (op_assign rfl) trivial rfl ?_
 refine .q (op_assign rfl) trivial rfl ?_
 refine .nil ?_
 show Ev _ _ _ _ _
 refine .seq ?_
 refine .seq ?_
 refine .region ?_
 refine .q (op_move rfl) trivial rfl ?_
 refine .q (op_call (U := []) [] [] (rvalid_ev t ht) Tryd.func10 (by kernel_rfl) rfl rfl rfl (⟨⟨_, rfl, rfl, rfl⟩, trivial⟩) (trivial) (trivial) (trivial) rfl) trivial rfl ?_
 refine .q (op_notB rfl) trivial rfl ?_
 refine .q (op_move rfl) trivial rfl ?_
 refine .know (b' := false) (by show (!nameN _) = false; rw [hvt]; rfl) ?_
 refine .q (op_move rfl) ⟨_, rfl, rfl⟩ rfl ?_
 refine .q (op_call (U := []) [] [] (rvalid_ev al ha) Tryd.func10 (by kernel_rfl) rfl rfl rfl (⟨⟨_, rfl, rfl, rfl⟩, trivial⟩) (trivial) (trivial) (trivial) rfl) ⟨_, rfl, rfl⟩ rfl ?_
 refine .q (op_notB rfl) ⟨_, rfl, rfl⟩ rfl ?_
 refine .q (op_pick_false rfl rfl rfl) trivial rfl ?_
 refine .nil ?_
 show Ev _ _ _ _ _
 refine .cond_false rfl (by first | rfl | (show (!nameN _) = false; rw [hva]; rfl)) ?_
 refine .skip ?_
 show Ev _ _ _ _ _
 refine .seq ?_
 refine .region ?_
 refine .q (op_loadRow Tryd.underlying32 rfl (by kernel_rfl) rfl rfl rfl (rfl)) trivial rfl ?_
 refine .q (op_move rfl) trivial rfl ?_
 refine .q (op_move rfl) trivial rfl ?_
 refine .q (op_call (U := []) [] [] (rat_ev a b c ep L hlen t al) Tryd.func31 (by kernel_rfl) rfl rfl rfl (⟨⟨_, rfl, rfl, rfl⟩, ⟨_, rfl, rfl, rfl⟩, ⟨_, rfl, rfl, rfl⟩, trivial⟩) (trivial) (trivial) (trivial) rfl) trivial rfl ?_
 refine .as (.i64 (-1)) (congrArg AV.i64 hk) ?_
 refine .q (op_assign rfl) trivial rfl ?_
 refine .nil ?_
 show Ev _ _ _ _ _
 refine .seq ?_
 refine .region ?_
 refine .q (op_assign rfl) trivial rfl ?_
 refine .nil ?_
 show Ev _ _ _ _ _
 refine .seq ?_
 refine .seq ?_
 refine .region ?_
 refine .q (op_move rfl) trivial rfl ?_
 refine .q (op_cmpI rfl rfl rfl) trivial rfl ?_
 refine .q (op_move rfl) trivial rfl ?_
 refine .know (b' := false) (rfl) ?_
 refine .no ⟨_, rfl, rfl⟩ rfl ?_
 refine .no ⟨_, rfl, rfl⟩ rfl ?_
 refine .no ⟨_, rfl, rfl⟩ rfl ?_
 refine .no ⟨_, rfl, rfl⟩ rfl ?_
 refine .no ⟨_, rfl, rfl⟩ rfl ?_
 refine .no ⟨_, rfl, rfl⟩ rfl ?_
 refine .no ⟨_, rfl, rfl⟩ rfl ?_
 refine .no ⟨_, rfl, rfl⟩ rfl ?_
 refine .q (op_pick_false rfl rfl rfl) trivial rfl ?_
 refine .nil ?_
 show Ev _ _ _ _ _
 refine .cond_false rfl rfl ?_
 refine .skip ?_
 show Ev _ _ _ _ _
 refine .seq ?_
 refine .seq ?_
 refine .region ?_
 refine .q (op_move rfl) trivial rfl ?_
 refine .q (op_cmpI rfl rfl rfl) trivial rfl ?_
 refine .nil ?_
 show Ev _ _ _ _ _
 refine .cond_false rfl (rfl) ?_
 refine .skip ?_
 show Ev _ _ _ _ _
 refine .seq ?_
 refine .seq ?_
 refine .drawn [[], [0], [0, 1], [0, 1, 2], [0, 1, 2], [0, 1, 2, 3, 4], [0, 1, 2], [0, 1, 2, 6], [0, 1, 2, 3, 4, 5, 6, 7], [0, 1, 2, 3, 4, 5, 6, 7, 8]] [3, 5, 7] [] (by kernel_rfl) (by kernel_rfl) rfl ?_
 show DK _ [0, 1, 2, 3, 4, 5, 6, 7, 8, 9] _ _ _
 refine .q rfl (op_move rfl) trivial ?_
 refine .q rfl (op_cmpI rfl rfl rfl) trivial ?_
 refine .q rfl (op_move rfl) trivial ?_
 refine .know (b' := true) (rfl) ?_
 refine .q rfl (op_loadRow Tryd.underlying32 rfl (by kernel_rfl) rfl rfl rfl (rfl)) ⟨_, rfl, rfl⟩ ?_
 refine .q rfl (op_move rfl) ⟨_, rfl, rfl⟩ ?_
 refine .q rfl (op_call (U := []) [] [] (rcount_ev a b c ep L hlen t) Tryd.func18 (by kernel_rfl) rfl rfl rfl (⟨⟨_, rfl, rfl, rfl⟩, ⟨_, rfl, rfl, rfl⟩, trivial⟩) (trivial) (trivial) (trivial) rfl) ⟨_, rfl, rfl⟩ ?_
 refine .q rfl (op_fieldAddr (m := 0) Tryd.underlying32 rfl (by kernel_rfl) rfl) ⟨_, rfl, rfl⟩ ?_
 refine .as (.ptr 1000 0) rfl ?_
 refine .q rfl (op_load Tryd.underlying3 rfl rfl rfl rfl (by show 0 < 5; decide)) ⟨_, rfl, rfl⟩ ?_
 refine .q rfl (op_cmpI rfl rfl rfl) ⟨_, rfl, rfl⟩ ?_
 refine .q rfl (op_pick_true rfl rfl rfl) trivial ?_
 refine .nil ?_
 show Ev _ _ _ _ _
 refine .cond_false rfl (decide_eq_false hq) ?_
 refine .skip ?_
 show Ev _ _ _ _ _
 refine .seq ?_
 refine .seq ?_
 refine .region ?_
 refine .q (op_move rfl) trivial rfl ?_
 refine .q (op_cmpI rfl rfl rfl) trivial rfl ?_
 refine .q (op_move rfl) trivial rfl ?_
 refine .know (b' := true) (rfl) ?_
 refine .q (op_fieldAddr (m := 0) Tryd.underlying32 rfl (by kernel_rfl) rfl) ⟨_, rfl, rfl⟩ rfl ?_
 refine .as (.ptr 1000 4) rfl ?_
 refine .q (op_load Tryd.underlying30 rfl rfl rfl rfl (by show 4 < 5; decide)) ⟨_, rfl, rfl⟩ rfl ?_
 refine .q (op_len_fsl Tryd.underlying30 rfl) ⟨_, rfl, rfl⟩ rfl ?_
 refine .q (op_fieldAddr (m := 0) Tryd.underlying32 rfl (by kernel_rfl) rfl) ⟨_, rfl, rfl⟩ rfl ?_
 refine .as (.ptr 1000 1) rfl ?_
 refine .q (op_load Tryd.underlying3 rfl rfl rfl rfl (by show 1 < 5; decide)) ⟨_, rfl, rfl⟩ rfl ?_
 refine .q (op_cmpI rfl rfl rfl) ⟨_, rfl, rfl⟩ rfl ?_
 refine .q (op_pick_true rfl rfl rfl) trivial rfl ?_
 refine .nil ?_
 show Ev _ _ _ _ _
 refine .cond_true rfl (decide_eq_true hf) ?_
 refine .seq ?_
 refine .region ?_
 refine .q (op_loadRow Tryd.underlying32 rfl (by kernel_rfl) rfl rfl rfl (rfl)) trivial rfl ?_
 refine .q (op_buildS (r := .agg _) Tryd.underlying70 rfl zero70 rel_zero70 rfl rfl rfl rfl) trivial rfl ?_
 refine .w (op_storeRow (by kernel_rfl) rfl rfl rfl rfl rfl (rfl) (rfl)) trivial rfl ?_
 refine .w (op_storeRow (by kernel_rfl) rfl rfl rfl rfl rfl (rfl) (rfl)) trivial rfl ?_
 refine .q (op_assign rfl) trivial rfl ?_
 refine .q (op_assign rfl) trivial rfl ?_
 refine .nil ?_
 show Ev _ _ _ _ _
 refine .ret ?_
 show RetOk _ _ _ _ _ _ _
 exact retc4 rfl (.inl rfl) ⟨_, _, _, _, rfl, rfl, rfl, rfl, rfl, Tryd.underlying32, rfl, sz32⟩ ⟨_, _, _, _, rfl, rfl, rfl, rfl, rfl, Tryd.underlying70, rfl, sz70⟩ rfl rfl trivial
set_option maxRecDepth 100000 in
theorem rtakeO_ev (a b c ep : Int) (L : List Ls) (hlen : L.length ≤ 4096) (t al : List UInt8) (w now : Int) (ht : t.length ≤ 9223372036854775000) (ha : al.length ≤ 9223372036854775000) (hvt : nameN t = true) (hva : nameN al = true) (k : Nat) (hk : atI t al 0 L = ((k : Nat) : Int)) (hi : k < L.length) (hw : ¬ (L.getD k default).o = w) (hep : 0 ≤ ep ∧ ep ≤ 1000000000)  : Meets Tryd.prog 34 [.agg [.i64 a, .i64 b, .i64 c, .i64 ep, .fsl (lsC L) L.length 5], .str t, .str al, .i64 w, .i64 now] [] (.tup [.agg [.i64 a, .i64 b, .i64 c, .i64 (ep + 1), .fsl (lsC (insL (⟨t, al, w, ep + 1, tickV now⟩ : Ls) false L)) (insL (⟨t, al, w, ep + 1, tickV now⟩ : Ls) false L).length 5], lsV (⟨t, al, w, ep + 1, tickV now⟩ : Ls), .i64 (L.getD k default).o, .i64 0]) [] := by
 refine meets_of_ev (nt := 151) Tryd.func34 rfl rfl (Nat.le_of_ble_eq_true rfl) ?_
 refine .seq ?_
 refine .region ?_
 refine .a (op_boxRow rfl rfl) trivial rfl ?_
 refine .a (op_allocRow zero32 rel_zero32 rfl) trivial rfl ?_
 refine .a (op_allocRow zero70 rel_zero70 rfl) trivial rfl ?_
 refine .q (op_assign rfl) trivial rfl ?_
 refine .q (op_assign rfl) trivial rfl ?_
 refine .nil ?_
 show Ev _ _ _ _ _
 refine .seq ?_
 refine .seq ?_
 refine .region ?_
 refine .q (op_move rfl) trivial rfl ?_
 refine .q (op_call (U := []) [] [] (rvalid_ev t ht) Tryd.func10 (by kernel_rfl) rfl rfl rfl (⟨⟨_, rfl, rfl, rfl⟩, trivial⟩) (trivial) (trivial) (trivial) rfl) trivial rfl ?_
 refine .q (op_notB rfl) trivial rfl ?_
 refine .q (op_move rfl) trivial rfl ?_
 refine .know (b' := false) (by show (!nameN _) = false; rw [hvt]; rfl) ?_
 refine .q (op_move rfl) ⟨_, rfl, rfl⟩ rfl ?_
 refine .q (op_call (U := []) [] [] (rvalid_ev al ha) Tryd.func10 (by kernel_rfl) rfl rfl rfl (⟨⟨_, rfl, rfl, rfl⟩, trivial⟩) (trivial) (trivial) (trivial) rfl) ⟨_, rfl, rfl⟩ rfl ?_
 refine .q (op_notB rfl) ⟨_, rfl, rfl⟩ rfl ?_
 refine .q (op_pick_false rfl rfl rfl) trivial rfl ?_
 refine .nil ?_
 show Ev _ _ _ _ _
 refine .cond_false rfl (by first | rfl | (show (!nameN _) = false; rw [hva]; rfl)) ?_
 refine .skip ?_
 show Ev _ _ _ _ _
 refine .seq ?_
 refine .region ?_
 refine .q (op_loadRow Tryd.underlying32 rfl (by kernel_rfl) rfl rfl rfl (rfl)) trivial rfl ?_
 refine .q (op_move rfl) trivial rfl ?_
 refine .q (op_move rfl) trivial rfl ?_
 refine .q (op_call (U := []) [] [] (rat_ev a b c ep L hlen t al) Tryd.func31 (by kernel_rfl) rfl rfl rfl (⟨⟨_, rfl, rfl, rfl⟩, ⟨_, rfl, rfl, rfl⟩, ⟨_, rfl, rfl, rfl⟩, trivial⟩) (trivial) (trivial) (trivial) rfl) trivial rfl ?_
 refine .as (.i64 ((k : Nat) : Int)) (congrArg AV.i64 hk) ?_
 refine .q (op_assign rfl) trivial rfl ?_
 refine .nil ?_
 show Ev _ _ _ _ _
 refine .seq ?_
 refine .region ?_
 refine .q (op_assign rfl) trivial rfl ?_
 refine .nil ?_
 show Ev _ _ _ _ _
 refine .seq ?_
 refine .seq ?_
 refine .region ?_
 refine .q (op_move rfl) trivial rfl ?_
 refine .q (op_cmpI rfl rfl rfl) trivial rfl ?_
 refine .q (op_move rfl) trivial rfl ?_
 refine .know (b' := true) (decide_eq_true (by omega)) ?_
 refine .q (op_fieldAddr (m := 0) Tryd.underlying32 rfl (by kernel_rfl) rfl) ⟨_, rfl, rfl⟩ rfl ?_
 refine .as (.ptr 1000 4) rfl ?_
 refine .q (op_load Tryd.underlying30 rfl rfl rfl rfl (by show 4 < 5; decide)) ⟨_, rfl, rfl⟩ rfl ?_
 refine .q (op_move rfl) ⟨_, rfl, rfl⟩ rfl ?_
 refine .q (op_indexAddr_fsl Tryd.underlying30 infLeaseR.sz (by decide) rfl rfl (i := k) rfl (hi)) ⟨_, rfl, rfl⟩ rfl ?_
 refine .q (op_fieldAddr_fptr (m := 0) Tryd.underlying70 rfl (by kernel_rfl) rfl (ls_long hi)) ⟨_, rfl, rfl⟩ rfl ?_
 refine .q (op_load_fptr Tryd.underlying3 rfl rfl (ls_owner hi)) ⟨_, rfl, rfl⟩ rfl ?_
 refine .q (op_move rfl) ⟨_, rfl, rfl⟩ rfl ?_
 refine .q (op_cmpI rfl rfl rfl) ⟨_, rfl, rfl⟩ rfl ?_
 refine .q (op_pick_true rfl rfl rfl) trivial rfl ?_
 refine .nil ?_
 show Ev _ _ _ _ _
 refine .cond_false rfl (by show ((L.getD k default).o == w) = false; simpa using hw) ?_
 refine .skip ?_
 show Ev _ _ _ _ _
 refine .seq ?_
 refine .seq ?_
 refine .region ?_
 refine .q (op_move rfl) trivial rfl ?_
 refine .q (op_cmpI rfl rfl rfl) trivial rfl ?_
 refine .nil ?_
 show Ev _ _ _ _ _
 refine .cond_true rfl (decide_eq_true (by omega)) ?_
 refine .region ?_
 refine .q (op_fieldAddr (m := 0) Tryd.underlying32 rfl (by kernel_rfl) rfl) trivial rfl ?_
 refine .as (.ptr 1000 4) rfl ?_
 refine .q (op_load Tryd.underlying30 rfl rfl rfl rfl (by show 4 < 5; decide)) trivial rfl ?_
 refine .q (op_move rfl) trivial rfl ?_
 refine .q (op_indexAddr_fsl Tryd.underlying30 infLeaseR.sz (by decide) rfl rfl (i := k) rfl (hi)) trivial rfl ?_
 refine .q (op_fieldAddr_fptr (m := 0) Tryd.underlying70 rfl (by kernel_rfl) rfl (ls_long hi)) trivial rfl ?_
 refine .q (op_load_fptr Tryd.underlying3 rfl rfl (ls_owner hi)) trivial rfl ?_
 refine .q (op_assign rfl) trivial rfl ?_
 refine .nil ?_
 show Ev _ _ _ _ _
 refine .seq ?_
 refine .seq ?_
 refine .drawn [[], [0], [0, 1], [0, 1, 2], [0, 1, 2], [0, 1, 2, 3, 4], [0, 1, 2], [0, 1, 2, 6], [0, 1, 2, 3, 4, 5, 6, 7], [0, 1, 2, 3, 4, 5, 6, 7, 8]] [3, 5, 7] [] (by kernel_rfl) (by kernel_rfl) rfl ?_
 show DK _ [0, 1, 2, 3, 4, 5, 6, 7, 8, 9] _ _ _
 refine .q rfl (op_move rfl) trivial ?_
 refine .q rfl (op_cmpI rfl rfl rfl) trivial ?_
 refine .q rfl (op_move rfl) trivial ?_
 refine .know (b' := false) (decide_eq_false (by omega)) ?_
 refine .no rfl ⟨_, rfl, rfl⟩ ?_
 refine .no rfl ⟨_, rfl, rfl⟩ ?_
 refine .no rfl ⟨_, rfl, rfl⟩ ?_
 refine .no rfl ⟨_, rfl, rfl⟩ ?_
 refine .no rfl ⟨_, rfl, rfl⟩ ?_
 refine .no rfl ⟨_, rfl, rfl⟩ ?_
 refine .q rfl (op_pick_false rfl rfl rfl) trivial ?_
 refine .nil ?_
 show Ev _ _ _ _ _
 refine .cond_false rfl rfl ?_
 refine .skip ?_
 show Ev _ _ _ _ _
 refine .seq ?_
 refine .seq ?_
 refine .region ?_
 refine .q (op_move rfl) trivial rfl ?_
 refine .q (op_cmpI rfl rfl rfl) trivial rfl ?_
 refine .q (op_move rfl) trivial rfl ?_
 refine .know (b' := false) (decide_eq_false (by omega)) ?_
 refine .no ⟨_, rfl, rfl⟩ rfl ?_
 refine .no ⟨_, rfl, rfl⟩ rfl ?_
 refine .no ⟨_, rfl, rfl⟩ rfl ?_
 refine .no ⟨_, rfl, rfl⟩ rfl ?_
 refine .no ⟨_, rfl, rfl⟩ rfl ?_
 refine .no ⟨_, rfl, rfl⟩ rfl ?_
 refine .q (op_pick_false rfl rfl rfl) trivial rfl ?_
 refine .nil ?_
 show Ev _ _ _ _ _
 refine .cond_false rfl rfl ?_
 refine .skip ?_
 show Ev _ _ _ _ _
 refine .seq ?_
 refine .region ?_
 refine .q (op_fieldAddr (m := 0) Tryd.underlying32 rfl (by kernel_rfl) rfl) trivial rfl ?_
 refine .as (.ptr 1000 3) rfl ?_
 refine .q (op_load Tryd.underlying3 rfl rfl rfl rfl (by show 3 < 5; decide)) trivial rfl ?_
 refine .q (op_addI rfl rfl ⟨by omega, by omega⟩) trivial rfl ?_
 refine .q (op_fieldAddr (m := 0) Tryd.underlying32 rfl (by kernel_rfl) rfl) trivial rfl ?_
 refine .as (.ptr 1000 3) rfl ?_
 refine .w (op_store inf3.sz rfl rfl rfl rfl rfl (by show 3 < 5; decide)) trivial rfl ?_
 refine .nil ?_
 show Ev _ _ _ _ _
 refine .seq ?_
 refine .drawn [[], [], [], [], [3], [], [5], [0, 1, 2, 3, 4, 5, 6], [], [0, 1, 2, 3, 4, 5, 6, 7, 8]] [4, 6, 8, 9] [9] (by kernel_rfl) (by kernel_rfl) rfl ?_
 show DK _ [0, 1, 2, 3, 4, 5, 6, 7, 8, 9] _ _ _
 refine .q rfl (op_move rfl) trivial ?_
 refine .q rfl (op_move rfl) trivial ?_
 refine .q rfl (op_move rfl) trivial ?_
 refine .q rfl (op_fieldAddr (m := 0) Tryd.underlying32 rfl (by kernel_rfl) rfl) trivial ?_
 refine .as (.ptr 1000 3) rfl ?_
 refine .q rfl (op_load Tryd.underlying3 rfl rfl rfl rfl (by show 3 < 5; decide)) trivial ?_
 refine .q rfl (op_move rfl) trivial ?_
 refine .q rfl (op_call (U := []) [] [] (rtick_ev now) Tryd.func49 (by kernel_rfl) rfl rfl rfl (⟨⟨_, rfl, rfl, rfl⟩, trivial⟩) (trivial) (trivial) (trivial) rfl) trivial ?_
 refine .q rfl (op_buildS (r := .agg _) Tryd.underlying70 rfl zero70 rel_zero70 rfl rfl rfl rfl) trivial ?_
 refine .a rfl (op_allocRow zero70 rel_zero70 rfl) trivial rfl rfl ?_
 refine .w rfl (op_storeRow (by kernel_rfl) rfl rfl rfl rfl rfl (rfl) (rfl)) trivial rfl rfl ?_
 refine .nil ?_
 show Ev _ _ _ _ _
 refine .seq ?_
 refine .region ?_
 refine .a (ap_build0 (c := .agg (lsC [])) Tryd.underlying30 infLeaseR rfl) trivial rfl ?_
 refine .q (op_assign rfl) trivial rfl ?_
 refine .nil ?_
 show Ev _ _ _ _ _
 refine .seq ?_
 refine .region ?_
 refine .q (op_assign rfl) trivial rfl ?_
 refine .nil ?_
 show Ev _ _ _ _ _
 refine .seq ?_
 refine .seq ?_
 refine .region ?_
 refine .q (op_fieldAddr (m := 0) Tryd.underlying32 rfl (by kernel_rfl) rfl) trivial rfl ?_
 refine .as (.ptr 1000 4) rfl ?_
 refine .q (op_load Tryd.underlying30 rfl rfl rfl rfl (by show 4 < 5; decide)) trivial rfl ?_
 refine .q (op_len_fsl Tryd.underlying30 rfl) trivial rfl ?_
 refine .q (op_move rfl) trivial rfl ?_
 refine .nil ?_
 show Ev _ _ _ _ _
 refine .block ?_
 refine Ev.loop (ι := IN L (⟨t, al, w, ep + 1, tickV now⟩ : Ls)) (fun q => ⟨[(1, .str t), (2, .str al), (5, .ptr 1000 0), (10, .ptr 1008 0), (11, .ptr 1016 0), (15, .i64 (L.getD k default).o), (16, .ptr 1024 0), (17, .sl 1032 0 (q.A).length 5), (18, .bool q.d), (95, .fsl (lsC L) L.length 5), (96, .i64 ((L.length : Nat) : Int)), (97, .i64 ((q.i : Nat) : Int))], [(1000, some ⟨.agg [.i64 a, .i64 b, .i64 c, .i64 (ep + 1), .fsl (lsC L) L.length 5], 32, true⟩), (1008, some ⟨.agg [.i64 0, .i64 0, .i64 0, .i64 0, .nilsl], 32, true⟩), (1016, some ⟨.agg [.str [], .str [], .i64 0, .i64 0, .i64 0], 70, true⟩), (1024, some ⟨lsV (⟨t, al, w, ep + 1, tickV now⟩ : Ls), 70, true⟩), (1032, some ⟨.agg (lsC (q.A)), 70, true⟩)], 1040⟩) (fun q => L.length - q.i) ⟨0, [], false, Nat.zero_le _, by rw [List.drop_zero]; rfl, Nat.zero_le _⟩ (StLe.mk [(1000, 1000), (1008, 1008), (1016, 1016), (1024, 1168), (1032, 1184)] rfl rfl ⟨⟨_, rfl, by first | rfl | (simp only [AV.ren]; congr 1; omega), rfl⟩, ⟨_, rfl, by first | rfl | (simp only [AV.ren]; congr 1; omega), rfl⟩, ⟨_, rfl, by first | rfl | (simp only [AV.ren]; congr 1; omega), rfl⟩, ⟨_, rfl, by first | rfl | (simp only [AV.ren]; congr 1; omega), rfl⟩, ⟨_, rfl, by first | rfl | (simp only [AV.ren]; congr 1; omega), rfl⟩, ⟨_, rfl, by first | rfl | (simp only [AV.ren]; congr 1; omega), rfl⟩, ⟨_, rfl, by first | rfl | (simp only [AV.ren]; congr 1; omega), rfl⟩, ⟨_, rfl, by first | rfl | (simp only [AV.ren]; congr 1; omega), rfl⟩, ⟨_, rfl, by first | rfl | (simp only [AV.ren]; congr 1; omega), rfl⟩, ⟨_, rfl, by first | rfl | (simp only [AV.ren]; congr 1; omega), rfl⟩, ⟨_, rfl, by first | rfl | (simp only [AV.ren]; congr 1; omega), rfl⟩, ⟨_, rfl, by first | rfl | (simp only [AV.ren]; congr 1; omega), rfl⟩, trivial⟩ ⟨⟨_, _, rfl, rfl, rfl, rfl, id, rfl⟩, ⟨_, _, rfl, rfl, rfl, rfl, id, rfl⟩, ⟨_, _, rfl, rfl, rfl, rfl, id, rfl⟩, ⟨_, _, rfl, rfl, rfl, rfl, id, rfl⟩, ⟨_, _, rfl, rfl, lsC_ren _ _, rfl, id, lsC_nm _ _⟩, trivial⟩) ?_
 rintro ⟨i, A, d, hi0, hv, hA⟩
 dsimp only
 refine .seq ?_
 refine .region ?_
 refine .q (op_cmpI rfl rfl rfl) trivial rfl ?_
 refine .nil ?_
 show Ev _ _ _ _ _
 refine .seq ?_
 refine .cond rfl (fun hc98 => ?_) (fun hc98 => ?_)
 ·skip
  refine .skip ?_
  show Ev _ _ _ _ _
  refine .seq ?_
  refine .block ?_
  refine .seq ?_
  refine .region ?_
  have hi2 : i < L.length := by have := of_decide_eq_true hc98; omega
  refine .q (op_indexAddr_fsl Tryd.underlying30 infLeaseR.sz (by decide) rfl rfl (i := i) rfl (hi2)) trivial rfl ?_
  refine .q (op_loadRow_fptr (v := lsV ((L.getD i default))) Tryd.underlying70 rfl infLeaseR.sz rfl rfl (ls_take (hi2)) rfl) trivial rfl ?_
  refine .a (op_allocRow zero70 rel_zero70 rfl) trivial rfl ?_
  refine .w (op_storeRow (by kernel_rfl) rfl rfl rfl rfl rfl (rfl) (rfl)) trivial rfl ?_
  refine .nil ?_
  show Ev _ _ _ _ _
  refine .seq ?_
  refine .seq ?_
  refine .region ?_
  refine .q (op_fieldAddr (m := 0) Tryd.underlying70 rfl (by kernel_rfl) rfl) trivial rfl ?_
  refine .as (.ptr 1040 0) rfl ?_
  refine .q (op_load Tryd.underlying9 rfl rfl rfl rfl (by show 0 < 5; decide)) trivial rfl ?_
  refine .q (op_move rfl) trivial rfl ?_
  refine .q (op_eqS rfl rfl rfl) trivial rfl ?_
  refine .q (op_move rfl) trivial rfl ?_
  refine .split (fun hg105 => ?_) (fun hg105 => ?_)
  ·skip
   refine .q (op_fieldAddr (m := 0) Tryd.underlying70 rfl (by kernel_rfl) rfl) ⟨_, rfl, rfl⟩ rfl ?_
   refine .as (.ptr 1040 1) rfl ?_
   refine .q (op_load Tryd.underlying9 rfl rfl rfl rfl (by show 1 < 5; decide)) ⟨_, rfl, rfl⟩ rfl ?_
   refine .q (op_move rfl) ⟨_, rfl, rfl⟩ rfl ?_
   refine .q (op_eqS rfl rfl rfl) ⟨_, rfl, rfl⟩ rfl ?_
   refine .q (op_pick_true rfl rfl rfl) trivial rfl ?_
   refine .nil ?_
   show Ev _ _ _ _ _
   refine .cond rfl (fun hc110 => ?_) (fun hc110 => ?_)
   ·skip
    refine .exit ?_
    show Ev _ _ _ _ _
    refine .region ?_
    refine .q (op_addI rfl rfl ⟨by omega, by omega⟩) trivial rfl ?_
    refine .q (op_move rfl) trivial rfl ?_
    refine .nil ?_
    exact ⟨⟨i + 1, A, d, hi2, ins_skip hv hi2 (show kEq (L.getD i default) (⟨t, al, w, ep + 1, tickV now⟩ : Ls) from ⟨by simpa using hg105, by simpa using hc110⟩), len_skip hA⟩, by show _ - (i + 1) < _ - i; omega, StLe.mk [(1000, 1000), (1008, 1008), (1016, 1016), (1024, 1024), (1032, 1032)] rfl rfl ⟨⟨_, rfl, by first | rfl | (simp only [AV.ren]; congr 1; omega), rfl⟩, ⟨_, rfl, by first | rfl | (simp only [AV.ren]; congr 1; omega), rfl⟩, ⟨_, rfl, by first | rfl | (simp only [AV.ren]; congr 1; omega), rfl⟩, ⟨_, rfl, by first | rfl | (simp only [AV.ren]; congr 1; omega), rfl⟩, ⟨_, rfl, by first | rfl | (simp only [AV.ren]; congr 1; omega), rfl⟩, ⟨_, rfl, by first | rfl | (simp only [AV.ren]; congr 1; omega), rfl⟩, ⟨_, rfl, by first | rfl | (simp only [AV.ren]; congr 1; omega), rfl⟩, ⟨_, rfl, by rfl, rfl⟩, ⟨_, rfl, by rfl, rfl⟩, ⟨_, rfl, by first | rfl | (simp only [AV.ren]; congr 1; omega), rfl⟩, ⟨_, rfl, by first | rfl | (simp only [AV.ren]; congr 1; omega), rfl⟩, ⟨_, rfl, by first | rfl | (simp only [AV.ren]; congr 1; omega), rfl⟩, trivial⟩ ⟨⟨_, _, rfl, rfl, rfl, rfl, id, rfl⟩, ⟨_, _, rfl, rfl, rfl, rfl, id, rfl⟩, ⟨_, _, rfl, rfl, rfl, rfl, id, rfl⟩, ⟨_, _, rfl, rfl, rfl, rfl, id, rfl⟩, ⟨_, _, rfl, rfl, lsC_ren _ _, rfl, id, lsC_nm _ _⟩, trivial⟩⟩
   ·skip
    refine .skip ?_
    show Ev _ _ _ _ _
    refine .seq ?_
    refine .seq ?_
    refine .region ?_
    refine .q (op_move rfl) trivial rfl ?_
    refine .q (op_notB rfl) trivial rfl ?_
    refine .q (op_move rfl) trivial rfl ?_
    refine .split (fun hg113 => ?_) (fun hg113 => ?_)
    ·skip
     refine .q (op_move rfl) ⟨_, rfl, rfl⟩ rfl ?_
     refine .q (op_fieldAddr (m := 0) Tryd.underlying70 rfl (by kernel_rfl) rfl) ⟨_, rfl, rfl⟩ rfl ?_
     refine .as (.ptr 1040 0) rfl ?_
     refine .q (op_load Tryd.underlying9 rfl rfl rfl rfl (by show 0 < 5; decide)) ⟨_, rfl, rfl⟩ rfl ?_
     refine .q (op_ltS rfl rfl) ⟨_, rfl, rfl⟩ rfl ?_
     refine .q (op_move rfl) ⟨_, rfl, rfl⟩ rfl ?_
     refine .split (fun hg118 => ?_) (fun hg118 => ?_)
     ·skip
      refine .no ⟨_, rfl, rfl⟩ rfl ?_
      refine .no ⟨_, rfl, rfl⟩ rfl ?_
      refine .no ⟨_, rfl, rfl⟩ rfl ?_
      refine .no ⟨_, rfl, rfl⟩ rfl ?_
      refine .no ⟨_, rfl, rfl⟩ rfl ?_
      refine .noU ⟨_, rfl, rfl⟩ rfl ?_
      refine .noU ⟨_, rfl, rfl⟩ rfl ?_
      refine .noU ⟨_, rfl, rfl⟩ rfl ?_
      refine .noU ⟨_, rfl, rfl⟩ rfl ?_
      refine .no ⟨_, rfl, rfl⟩ rfl ?_
      refine .q (op_pick_true rfl rfl rfl) ⟨_, rfl, rfl⟩ rfl ?_
      refine .q (op_pick_true rfl rfl rfl) trivial rfl ?_
      refine .nil ?_
      show Ev _ _ _ _ _
      refine .cond_true rfl rfl ?_
      refine .seq ?_
      refine .region ?_
      refine .q (op_move rfl) trivial rfl ?_
      refine .q (op_loadRow Tryd.underlying70 rfl (by kernel_rfl) rfl rfl rfl (rfl)) trivial rfl ?_
      refine .a (op_buildRow (z := 5) (r := lsV ((⟨t, al, w, ep + 1, tickV now⟩ : Ls))) (cs := Ls.cs ((⟨t, al, w, ep + 1, tickV now⟩ : Ls))) Tryd.underlying30 infLeaseR (by decide) (by decide) rfl rfl rfl) trivial rfl ?_
      refine .a (ap_append (c' := .agg (lsC (A ++ [(⟨t, al, w, ep + 1, tickV now⟩ : Ls)]))) Tryd.underlying30 Tryd.underlying30 (.inr ⟨_, rfl⟩) infLeaseR rfl rfl rfl rfl (by show (lsC _).length = _; rw [lsC_len]; first | done | (rw [List.length_append]; rfl)) (srcs_sl (m := 1) (o := 0) rfl rfl (by show 5 ≤ 5; decide)) (lsC_app (A) [(⟨t, al, w, ep + 1, tickV now⟩ : Ls)]) (by (try rw [List.length_append]); (try rw [List.length_singleton]); (have := hA); split at this <;> omega)) trivial rfl ?_
      refine .q (op_assign rfl) trivial rfl ?_
      refine .nil ?_
      show Ev _ _ _ _ _
      refine .region ?_
      refine .q (op_assign rfl) trivial rfl ?_
      refine .nil ?_
      show Ev _ _ _ _ _
      refine .region ?_
      refine .q (op_move rfl) trivial rfl ?_
      refine .q (op_loadRow Tryd.underlying70 rfl (by kernel_rfl) rfl rfl rfl (rfl)) trivial rfl ?_
      refine .a (op_buildRow (z := 5) (r := lsV ((L.getD i default))) (cs := Ls.cs ((L.getD i default))) Tryd.underlying30 infLeaseR (by decide) (by decide) rfl rfl rfl) trivial rfl ?_
      refine .a (ap_append (c' := .agg (lsC (A ++ [(⟨t, al, w, ep + 1, tickV now⟩ : Ls)] ++ [(L.getD i default)]))) Tryd.underlying30 Tryd.underlying30 (.inr ⟨_, rfl⟩) infLeaseR rfl rfl rfl rfl (by show (lsC _).length = _; rw [lsC_len]; first | done | (rw [List.length_append]; rfl)) (srcs_sl (m := 1) (o := 0) rfl rfl (by show 5 ≤ 5; decide)) (lsC_app (A ++ [(⟨t, al, w, ep + 1, tickV now⟩ : Ls)]) [(L.getD i default)]) (by (try rw [List.length_append]); (try rw [List.length_singleton]); (have := hA); split at this <;> omega)) trivial rfl ?_
      refine .q (op_assign rfl) trivial rfl ?_
      refine .nil ?_
      show Ev _ _ _ _ _
      refine .region ?_
      refine .q (op_addI rfl rfl ⟨by omega, by omega⟩) trivial rfl ?_
      refine .q (op_move rfl) trivial rfl ?_
      refine .nil ?_
      have hne : ¬ kEq (L.getD i default) (⟨t, al, w, ep + 1, tickV now⟩ : Ls) := fun hc => in_ne hc (by first | exact .inl hg105 | exact .inr hc110)
      have hd0 : d = false := by have h := hg113; cases d <;> first | rfl | cases h
      have hlt : kLt (⟨t, al, w, ep + 1, tickV now⟩ : Ls) (L.getD i default) := by first | exact .inl (of_decide_eq_true hg118) | exact .inr ⟨by simpa using hg123, of_decide_eq_true hc130⟩
      subst hd0
      exact ⟨⟨i + 1, ((A ++ [(⟨t, al, w, ep + 1, tickV now⟩ : Ls)]) ++ [(L.getD i default)]), true, hi2, ins_put hv hi2 hne hlt, len_put hA⟩, by show _ - (i + 1) < _ - i; omega, StLe.mk [(1000, 1000), (1008, 1008), (1016, 1016), (1024, 1024), (1032, 1072)] rfl rfl ⟨⟨_, rfl, by first | rfl | (simp only [AV.ren]; congr 1; omega), rfl⟩, ⟨_, rfl, by first | rfl | (simp only [AV.ren]; congr 1; omega), rfl⟩, ⟨_, rfl, by first | rfl | (simp only [AV.ren]; congr 1; omega), rfl⟩, ⟨_, rfl, by first | rfl | (simp only [AV.ren]; congr 1; omega), rfl⟩, ⟨_, rfl, by first | rfl | (simp only [AV.ren]; congr 1; omega), rfl⟩, ⟨_, rfl, by first | rfl | (simp only [AV.ren]; congr 1; omega), rfl⟩, ⟨_, rfl, by first | rfl | (simp only [AV.ren]; congr 1; omega), rfl⟩, ⟨_, rfl, by exact (sl_snoc2 1032 _ _ _), rfl⟩, ⟨_, rfl, by rfl, rfl⟩, ⟨_, rfl, by first | rfl | (simp only [AV.ren]; congr 1; omega), rfl⟩, ⟨_, rfl, by first | rfl | (simp only [AV.ren]; congr 1; omega), rfl⟩, ⟨_, rfl, by first | rfl | (simp only [AV.ren]; congr 1; omega), rfl⟩, trivial⟩ ⟨⟨_, _, rfl, rfl, rfl, rfl, id, rfl⟩, ⟨_, _, rfl, rfl, rfl, rfl, id, rfl⟩, ⟨_, _, rfl, rfl, rfl, rfl, id, rfl⟩, ⟨_, _, rfl, rfl, rfl, rfl, id, rfl⟩, ⟨_, _, rfl, rfl, lsC_ren _ _, rfl, id, lsC_nm _ _⟩, trivial⟩⟩
     ·skip
      refine .q (op_move rfl) ⟨_, rfl, rfl⟩ rfl ?_
      refine .q (op_fieldAddr (m := 0) Tryd.underlying70 rfl (by kernel_rfl) rfl) ⟨_, rfl, rfl⟩ rfl ?_
      refine .as (.ptr 1040 0) rfl ?_
      refine .q (op_load Tryd.underlying9 rfl rfl rfl rfl (by show 0 < 5; decide)) ⟨_, rfl, rfl⟩ rfl ?_
      refine .q (op_eqS rfl rfl rfl) ⟨_, rfl, rfl⟩ rfl ?_
      refine .q (op_move rfl) ⟨_, rfl, rfl⟩ rfl ?_
      refine .split (fun hg123 => ?_) (fun hg123 => ?_)
      ·skip
       refine .q (op_move rfl) ⟨_, rfl, rfl⟩ rfl ?_
       refine .q (op_fieldAddr (m := 0) Tryd.underlying70 rfl (by kernel_rfl) rfl) ⟨_, rfl, rfl⟩ rfl ?_
       refine .as (.ptr 1040 1) rfl ?_
       refine .q (op_load Tryd.underlying9 rfl rfl rfl rfl (by show 1 < 5; decide)) ⟨_, rfl, rfl⟩ rfl ?_
       refine .q (op_ltS rfl rfl) ⟨_, rfl, rfl⟩ rfl ?_
       refine .q (op_pick_true rfl rfl rfl) ⟨_, rfl, rfl⟩ rfl ?_
       refine .q (op_pick_false rfl rfl rfl) ⟨_, rfl, rfl⟩ rfl ?_
       refine .q (op_pick_true rfl rfl rfl) trivial rfl ?_
       refine .nil ?_
       show Ev _ _ _ _ _
       refine .cond rfl (fun hc130 => ?_) (fun hc130 => ?_)
       ·skip
        refine .seq ?_
        refine .region ?_
        refine .q (op_move rfl) trivial rfl ?_
        refine .q (op_loadRow Tryd.underlying70 rfl (by kernel_rfl) rfl rfl rfl (rfl)) trivial rfl ?_
        refine .a (op_buildRow (z := 5) (r := lsV ((⟨t, al, w, ep + 1, tickV now⟩ : Ls))) (cs := Ls.cs ((⟨t, al, w, ep + 1, tickV now⟩ : Ls))) Tryd.underlying30 infLeaseR (by decide) (by decide) rfl rfl rfl) trivial rfl ?_
        refine .a (ap_append (c' := .agg (lsC (A ++ [(⟨t, al, w, ep + 1, tickV now⟩ : Ls)]))) Tryd.underlying30 Tryd.underlying30 (.inr ⟨_, rfl⟩) infLeaseR rfl rfl rfl rfl (by show (lsC _).length = _; rw [lsC_len]; first | done | (rw [List.length_append]; rfl)) (srcs_sl (m := 1) (o := 0) rfl rfl (by show 5 ≤ 5; decide)) (lsC_app (A) [(⟨t, al, w, ep + 1, tickV now⟩ : Ls)]) (by (try rw [List.length_append]); (try rw [List.length_singleton]); (have := hA); split at this <;> omega)) trivial rfl ?_
        refine .q (op_assign rfl) trivial rfl ?_
        refine .nil ?_
        show Ev _ _ _ _ _
        refine .region ?_
        refine .q (op_assign rfl) trivial rfl ?_
        refine .nil ?_
        show Ev _ _ _ _ _
        refine .region ?_
        refine .q (op_move rfl) trivial rfl ?_
        refine .q (op_loadRow Tryd.underlying70 rfl (by kernel_rfl) rfl rfl rfl (rfl)) trivial rfl ?_
        refine .a (op_buildRow (z := 5) (r := lsV ((L.getD i default))) (cs := Ls.cs ((L.getD i default))) Tryd.underlying30 infLeaseR (by decide) (by decide) rfl rfl rfl) trivial rfl ?_
        refine .a (ap_append (c' := .agg (lsC (A ++ [(⟨t, al, w, ep + 1, tickV now⟩ : Ls)] ++ [(L.getD i default)]))) Tryd.underlying30 Tryd.underlying30 (.inr ⟨_, rfl⟩) infLeaseR rfl rfl rfl rfl (by show (lsC _).length = _; rw [lsC_len]; first | done | (rw [List.length_append]; rfl)) (srcs_sl (m := 1) (o := 0) rfl rfl (by show 5 ≤ 5; decide)) (lsC_app (A ++ [(⟨t, al, w, ep + 1, tickV now⟩ : Ls)]) [(L.getD i default)]) (by (try rw [List.length_append]); (try rw [List.length_singleton]); (have := hA); split at this <;> omega)) trivial rfl ?_
        refine .q (op_assign rfl) trivial rfl ?_
        refine .nil ?_
        show Ev _ _ _ _ _
        refine .region ?_
        refine .q (op_addI rfl rfl ⟨by omega, by omega⟩) trivial rfl ?_
        refine .q (op_move rfl) trivial rfl ?_
        refine .nil ?_
        have hne : ¬ kEq (L.getD i default) (⟨t, al, w, ep + 1, tickV now⟩ : Ls) := fun hc => in_ne hc (by first | exact .inl hg105 | exact .inr hc110)
        have hd0 : d = false := by have h := hg113; cases d <;> first | rfl | cases h
        have hlt : kLt (⟨t, al, w, ep + 1, tickV now⟩ : Ls) (L.getD i default) := by first | exact .inl (of_decide_eq_true hg118) | exact .inr ⟨by simpa using hg123, of_decide_eq_true hc130⟩
        subst hd0
        exact ⟨⟨i + 1, ((A ++ [(⟨t, al, w, ep + 1, tickV now⟩ : Ls)]) ++ [(L.getD i default)]), true, hi2, ins_put hv hi2 hne hlt, len_put hA⟩, by show _ - (i + 1) < _ - i; omega, StLe.mk [(1000, 1000), (1008, 1008), (1016, 1016), (1024, 1024), (1032, 1072)] rfl rfl ⟨⟨_, rfl, by first | rfl | (simp only [AV.ren]; congr 1; omega), rfl⟩, ⟨_, rfl, by first | rfl | (simp only [AV.ren]; congr 1; omega), rfl⟩, ⟨_, rfl, by first | rfl | (simp only [AV.ren]; congr 1; omega), rfl⟩, ⟨_, rfl, by first | rfl | (simp only [AV.ren]; congr 1; omega), rfl⟩, ⟨_, rfl, by first | rfl | (simp only [AV.ren]; congr 1; omega), rfl⟩, ⟨_, rfl, by first | rfl | (simp only [AV.ren]; congr 1; omega), rfl⟩, ⟨_, rfl, by first | rfl | (simp only [AV.ren]; congr 1; omega), rfl⟩, ⟨_, rfl, by exact (sl_snoc2 1032 _ _ _), rfl⟩, ⟨_, rfl, by rfl, rfl⟩, ⟨_, rfl, by first | rfl | (simp only [AV.ren]; congr 1; omega), rfl⟩, ⟨_, rfl, by first | rfl | (simp only [AV.ren]; congr 1; omega), rfl⟩, ⟨_, rfl, by first | rfl | (simp only [AV.ren]; congr 1; omega), rfl⟩, trivial⟩ ⟨⟨_, _, rfl, rfl, rfl, rfl, id, rfl⟩, ⟨_, _, rfl, rfl, rfl, rfl, id, rfl⟩, ⟨_, _, rfl, rfl, rfl, rfl, id, rfl⟩, ⟨_, _, rfl, rfl, rfl, rfl, id, rfl⟩, ⟨_, _, rfl, rfl, lsC_ren _ _, rfl, id, lsC_nm _ _⟩, trivial⟩⟩
       ·skip
        refine .skip ?_
        show Ev _ _ _ _ _
        refine .region ?_
        refine .q (op_move rfl) trivial rfl ?_
        refine .q (op_loadRow Tryd.underlying70 rfl (by kernel_rfl) rfl rfl rfl (rfl)) trivial rfl ?_
        refine .a (op_buildRow (z := 5) (r := lsV ((L.getD i default))) (cs := Ls.cs ((L.getD i default))) Tryd.underlying30 infLeaseR (by decide) (by decide) rfl rfl rfl) trivial rfl ?_
        refine .a (ap_append (c' := .agg (lsC (A ++ [(L.getD i default)]))) Tryd.underlying30 Tryd.underlying30 (.inr ⟨_, rfl⟩) infLeaseR rfl rfl rfl rfl (by show (lsC _).length = _; rw [lsC_len]; first | done | (rw [List.length_append]; rfl)) (srcs_sl (m := 1) (o := 0) rfl rfl (by show 5 ≤ 5; decide)) (lsC_app (A) [(L.getD i default)]) (by (try rw [List.length_append]); (try rw [List.length_singleton]); (have := hA); split at this <;> omega)) trivial rfl ?_
        refine .q (op_assign rfl) trivial rfl ?_
        refine .nil ?_
        show Ev _ _ _ _ _
        refine .region ?_
        refine .q (op_addI rfl rfl ⟨by omega, by omega⟩) trivial rfl ?_
        refine .q (op_move rfl) trivial rfl ?_
        refine .nil ?_
        have hne : ¬ kEq (L.getD i default) (⟨t, al, w, ep + 1, tickV now⟩ : Ls) := fun hc => in_ne hc (by first | exact .inl hg105 | exact .inr hc110)
        have hnl : (!d && decide (kLt (⟨t, al, w, ep + 1, tickV now⟩ : Ls) (L.getD i default))) = false := by first | (rw [hg113]; rfl) | exact in_nl (by first | exact .inl ⟨hg118, hg123⟩ | exact .inr ⟨hg118, hc130⟩)
        exact ⟨⟨i + 1, (A ++ [(L.getD i default)]), d, hi2, ins_keep hv hi2 hne hnl, len_keep hA⟩, by show _ - (i + 1) < _ - i; omega, StLe.mk [(1000, 1000), (1008, 1008), (1016, 1016), (1024, 1024), (1032, 1056)] rfl rfl ⟨⟨_, rfl, by first | rfl | (simp only [AV.ren]; congr 1; omega), rfl⟩, ⟨_, rfl, by first | rfl | (simp only [AV.ren]; congr 1; omega), rfl⟩, ⟨_, rfl, by first | rfl | (simp only [AV.ren]; congr 1; omega), rfl⟩, ⟨_, rfl, by first | rfl | (simp only [AV.ren]; congr 1; omega), rfl⟩, ⟨_, rfl, by first | rfl | (simp only [AV.ren]; congr 1; omega), rfl⟩, ⟨_, rfl, by first | rfl | (simp only [AV.ren]; congr 1; omega), rfl⟩, ⟨_, rfl, by first | rfl | (simp only [AV.ren]; congr 1; omega), rfl⟩, ⟨_, rfl, by exact (sl_snoc 1032 _ _), rfl⟩, ⟨_, rfl, by rfl, rfl⟩, ⟨_, rfl, by first | rfl | (simp only [AV.ren]; congr 1; omega), rfl⟩, ⟨_, rfl, by first | rfl | (simp only [AV.ren]; congr 1; omega), rfl⟩, ⟨_, rfl, by first | rfl | (simp only [AV.ren]; congr 1; omega), rfl⟩, trivial⟩ ⟨⟨_, _, rfl, rfl, rfl, rfl, id, rfl⟩, ⟨_, _, rfl, rfl, rfl, rfl, id, rfl⟩, ⟨_, _, rfl, rfl, rfl, rfl, id, rfl⟩, ⟨_, _, rfl, rfl, rfl, rfl, id, rfl⟩, ⟨_, _, rfl, rfl, lsC_ren _ _, rfl, id, lsC_nm _ _⟩, trivial⟩⟩
      ·skip
       refine .no ⟨_, rfl, rfl⟩ rfl ?_
       refine .no ⟨_, rfl, rfl⟩ rfl ?_
       refine .no ⟨_, rfl, rfl⟩ rfl ?_
       refine .no ⟨_, rfl, rfl⟩ rfl ?_
       refine .q (op_pick_false rfl rfl rfl) ⟨_, rfl, rfl⟩ rfl ?_
       refine .q (op_pick_false rfl rfl rfl) ⟨_, rfl, rfl⟩ rfl ?_
       refine .q (op_pick_true rfl rfl rfl) trivial rfl ?_
       refine .nil ?_
       show Ev _ _ _ _ _
       refine .cond_false rfl rfl ?_
       refine .skip ?_
       show Ev _ _ _ _ _
       refine .region ?_
       refine .q (op_move rfl) trivial rfl ?_
       refine .q (op_loadRow Tryd.underlying70 rfl (by kernel_rfl) rfl rfl rfl (rfl)) trivial rfl ?_
       refine .a (op_buildRow (z := 5) (r := lsV ((L.getD i default))) (cs := Ls.cs ((L.getD i default))) Tryd.underlying30 infLeaseR (by decide) (by decide) rfl rfl rfl) trivial rfl ?_
       refine .a (ap_append (c' := .agg (lsC (A ++ [(L.getD i default)]))) Tryd.underlying30 Tryd.underlying30 (.inr ⟨_, rfl⟩) infLeaseR rfl rfl rfl rfl (by show (lsC _).length = _; rw [lsC_len]; first | done | (rw [List.length_append]; rfl)) (srcs_sl (m := 1) (o := 0) rfl rfl (by show 5 ≤ 5; decide)) (lsC_app (A) [(L.getD i default)]) (by (try rw [List.length_append]); (try rw [List.length_singleton]); (have := hA); split at this <;> omega)) trivial rfl ?_
       refine .q (op_assign rfl) trivial rfl ?_
       refine .nil ?_
       show Ev _ _ _ _ _
       refine .region ?_
       refine .q (op_addI rfl rfl ⟨by omega, by omega⟩) trivial rfl ?_
       refine .q (op_move rfl) trivial rfl ?_
       refine .nil ?_
       have hne : ¬ kEq (L.getD i default) (⟨t, al, w, ep + 1, tickV now⟩ : Ls) := fun hc => in_ne hc (by first | exact .inl hg105 | exact .inr hc110)
       have hnl : (!d && decide (kLt (⟨t, al, w, ep + 1, tickV now⟩ : Ls) (L.getD i default))) = false := by first | (rw [hg113]; rfl) | exact in_nl (by first | exact .inl ⟨hg118, hg123⟩ | exact .inr ⟨hg118, hc130⟩)
       exact ⟨⟨i + 1, (A ++ [(L.getD i default)]), d, hi2, ins_keep hv hi2 hne hnl, len_keep hA⟩, by show _ - (i + 1) < _ - i; omega, StLe.mk [(1000, 1000), (1008, 1008), (1016, 1016), (1024, 1024), (1032, 1056)] rfl rfl ⟨⟨_, rfl, by first | rfl | (simp only [AV.ren]; congr 1; omega), rfl⟩, ⟨_, rfl, by first | rfl | (simp only [AV.ren]; congr 1; omega), rfl⟩, ⟨_, rfl, by first | rfl | (simp only [AV.ren]; congr 1; omega), rfl⟩, ⟨_, rfl, by first | rfl | (simp only [AV.ren]; congr 1; omega), rfl⟩, ⟨_, rfl, by first | rfl | (simp only [AV.ren]; congr 1; omega), rfl⟩, ⟨_, rfl, by first | rfl | (simp only [AV.ren]; congr 1; omega), rfl⟩, ⟨_, rfl, by first | rfl | (simp only [AV.ren]; congr 1; omega), rfl⟩, ⟨_, rfl, by exact (sl_snoc 1032 _ _), rfl⟩, ⟨_, rfl, by rfl, rfl⟩, ⟨_, rfl, by first | rfl | (simp only [AV.ren]; congr 1; omega), rfl⟩, ⟨_, rfl, by first | rfl | (simp only [AV.ren]; congr 1; omega), rfl⟩, ⟨_, rfl, by first | rfl | (simp only [AV.ren]; congr 1; omega), rfl⟩, trivial⟩ ⟨⟨_, _, rfl, rfl, rfl, rfl, id, rfl⟩, ⟨_, _, rfl, rfl, rfl, rfl, id, rfl⟩, ⟨_, _, rfl, rfl, rfl, rfl, id, rfl⟩, ⟨_, _, rfl, rfl, rfl, rfl, id, rfl⟩, ⟨_, _, rfl, rfl, lsC_ren _ _, rfl, id, lsC_nm _ _⟩, trivial⟩⟩
    ·skip
     refine .no ⟨_, rfl, rfl⟩ rfl ?_
     refine .no ⟨_, rfl, rfl⟩ rfl ?_
     refine .no ⟨_, rfl, rfl⟩ rfl ?_
     refine .no ⟨_, rfl, rfl⟩ rfl ?_
     refine .no ⟨_, rfl, rfl⟩ rfl ?_
     refine .noU ⟨_, rfl, rfl⟩ rfl ?_
     refine .noU ⟨_, rfl, rfl⟩ rfl ?_
     refine .noU ⟨_, rfl, rfl⟩ rfl ?_
     refine .noU ⟨_, rfl, rfl⟩ rfl ?_
     refine .noU ⟨_, rfl, rfl⟩ rfl ?_
     refine .noU ⟨_, rfl, rfl⟩ rfl ?_
     refine .noU ⟨_, rfl, rfl⟩ rfl ?_
     refine .noU ⟨_, rfl, rfl⟩ rfl ?_
     refine .noU ⟨_, rfl, rfl⟩ rfl ?_
     refine .noU ⟨_, rfl, rfl⟩ rfl ?_
     refine .no ⟨_, rfl, rfl⟩ rfl ?_
     refine .q (op_pick_false rfl rfl rfl) trivial rfl ?_
     refine .nil ?_
     show Ev _ _ _ _ _
     refine .cond_false rfl rfl ?_
     refine .skip ?_
     show Ev _ _ _ _ _
     refine .region ?_
     refine .q (op_move rfl) trivial rfl ?_
     refine .q (op_loadRow Tryd.underlying70 rfl (by kernel_rfl) rfl rfl rfl (rfl)) trivial rfl ?_
     refine .a (op_buildRow (z := 5) (r := lsV ((L.getD i default))) (cs := Ls.cs ((L.getD i default))) Tryd.underlying30 infLeaseR (by decide) (by decide) rfl rfl rfl) trivial rfl ?_
     refine .a (ap_append (c' := .agg (lsC (A ++ [(L.getD i default)]))) Tryd.underlying30 Tryd.underlying30 (.inr ⟨_, rfl⟩) infLeaseR rfl rfl rfl rfl (by show (lsC _).length = _; rw [lsC_len]; first | done | (rw [List.length_append]; rfl)) (srcs_sl (m := 1) (o := 0) rfl rfl (by show 5 ≤ 5; decide)) (lsC_app (A) [(L.getD i default)]) (by (try rw [List.length_append]); (try rw [List.length_singleton]); (have := hA); split at this <;> omega)) trivial rfl ?_
     refine .q (op_assign rfl) trivial rfl ?_
     refine .nil ?_
     show Ev _ _ _ _ _
     refine .region ?_
     refine .q (op_addI rfl rfl ⟨by omega, by omega⟩) trivial rfl ?_
     refine .q (op_move rfl) trivial rfl ?_
     refine .nil ?_
     have hne : ¬ kEq (L.getD i default) (⟨t, al, w, ep + 1, tickV now⟩ : Ls) := fun hc => in_ne hc (by first | exact .inl hg105 | exact .inr hc110)
     have hnl : (!d && decide (kLt (⟨t, al, w, ep + 1, tickV now⟩ : Ls) (L.getD i default))) = false := by first | (rw [hg113]; rfl) | exact in_nl (by first | exact .inl ⟨hg118, hg123⟩ | exact .inr ⟨hg118, hc130⟩)
     exact ⟨⟨i + 1, (A ++ [(L.getD i default)]), d, hi2, ins_keep hv hi2 hne hnl, len_keep hA⟩, by show _ - (i + 1) < _ - i; omega, StLe.mk [(1000, 1000), (1008, 1008), (1016, 1016), (1024, 1024), (1032, 1056)] rfl rfl ⟨⟨_, rfl, by first | rfl | (simp only [AV.ren]; congr 1; omega), rfl⟩, ⟨_, rfl, by first | rfl | (simp only [AV.ren]; congr 1; omega), rfl⟩, ⟨_, rfl, by first | rfl | (simp only [AV.ren]; congr 1; omega), rfl⟩, ⟨_, rfl, by first | rfl | (simp only [AV.ren]; congr 1; omega), rfl⟩, ⟨_, rfl, by first | rfl | (simp only [AV.ren]; congr 1; omega), rfl⟩, ⟨_, rfl, by first | rfl | (simp only [AV.ren]; congr 1; omega), rfl⟩, ⟨_, rfl, by first | rfl | (simp only [AV.ren]; congr 1; omega), rfl⟩, ⟨_, rfl, by exact (sl_snoc 1032 _ _), rfl⟩, ⟨_, rfl, by rfl, rfl⟩, ⟨_, rfl, by first | rfl | (simp only [AV.ren]; congr 1; omega), rfl⟩, ⟨_, rfl, by first | rfl | (simp only [AV.ren]; congr 1; omega), rfl⟩, ⟨_, rfl, by first | rfl | (simp only [AV.ren]; congr 1; omega), rfl⟩, trivial⟩ ⟨⟨_, _, rfl, rfl, rfl, rfl, id, rfl⟩, ⟨_, _, rfl, rfl, rfl, rfl, id, rfl⟩, ⟨_, _, rfl, rfl, rfl, rfl, id, rfl⟩, ⟨_, _, rfl, rfl, rfl, rfl, id, rfl⟩, ⟨_, _, rfl, rfl, lsC_ren _ _, rfl, id, lsC_nm _ _⟩, trivial⟩⟩
  ·skip
   refine .no ⟨_, rfl, rfl⟩ rfl ?_
   refine .no ⟨_, rfl, rfl⟩ rfl ?_
   refine .no ⟨_, rfl, rfl⟩ rfl ?_
   refine .no ⟨_, rfl, rfl⟩ rfl ?_
   refine .q (op_pick_false rfl rfl rfl) trivial rfl ?_
   refine .nil ?_
   show Ev _ _ _ _ _
   refine .cond_false rfl rfl ?_
   refine .skip ?_
   show Ev _ _ _ _ _
   refine .seq ?_
   refine .seq ?_
   refine .region ?_
   refine .q (op_move rfl) trivial rfl ?_
   refine .q (op_notB rfl) trivial rfl ?_
   refine .q (op_move rfl) trivial rfl ?_
   refine .split (fun hg113 => ?_) (fun hg113 => ?_)
   ·skip
    refine .q (op_move rfl) ⟨_, rfl, rfl⟩ rfl ?_
    refine .q (op_fieldAddr (m := 0) Tryd.underlying70 rfl (by kernel_rfl) rfl) ⟨_, rfl, rfl⟩ rfl ?_
    refine .as (.ptr 1040 0) rfl ?_
    refine .q (op_load Tryd.underlying9 rfl rfl rfl rfl (by show 0 < 5; decide)) ⟨_, rfl, rfl⟩ rfl ?_
    refine .q (op_ltS rfl rfl) ⟨_, rfl, rfl⟩ rfl ?_
    refine .q (op_move rfl) ⟨_, rfl, rfl⟩ rfl ?_
    refine .split (fun hg118 => ?_) (fun hg118 => ?_)
    ·skip
     refine .no ⟨_, rfl, rfl⟩ rfl ?_
     refine .no ⟨_, rfl, rfl⟩ rfl ?_
     refine .no ⟨_, rfl, rfl⟩ rfl ?_
     refine .no ⟨_, rfl, rfl⟩ rfl ?_
     refine .no ⟨_, rfl, rfl⟩ rfl ?_
     refine .noU ⟨_, rfl, rfl⟩ rfl ?_
     refine .noU ⟨_, rfl, rfl⟩ rfl ?_
     refine .noU ⟨_, rfl, rfl⟩ rfl ?_
     refine .noU ⟨_, rfl, rfl⟩ rfl ?_
     refine .no ⟨_, rfl, rfl⟩ rfl ?_
     refine .q (op_pick_true rfl rfl rfl) ⟨_, rfl, rfl⟩ rfl ?_
     refine .q (op_pick_true rfl rfl rfl) trivial rfl ?_
     refine .nil ?_
     show Ev _ _ _ _ _
     refine .cond_true rfl rfl ?_
     refine .seq ?_
     refine .region ?_
     refine .q (op_move rfl) trivial rfl ?_
     refine .q (op_loadRow Tryd.underlying70 rfl (by kernel_rfl) rfl rfl rfl (rfl)) trivial rfl ?_
     refine .a (op_buildRow (z := 5) (r := lsV ((⟨t, al, w, ep + 1, tickV now⟩ : Ls))) (cs := Ls.cs ((⟨t, al, w, ep + 1, tickV now⟩ : Ls))) Tryd.underlying30 infLeaseR (by decide) (by decide) rfl rfl rfl) trivial rfl ?_
     refine .a (ap_append (c' := .agg (lsC (A ++ [(⟨t, al, w, ep + 1, tickV now⟩ : Ls)]))) Tryd.underlying30 Tryd.underlying30 (.inr ⟨_, rfl⟩) infLeaseR rfl rfl rfl rfl (by show (lsC _).length = _; rw [lsC_len]; first | done | (rw [List.length_append]; rfl)) (srcs_sl (m := 1) (o := 0) rfl rfl (by show 5 ≤ 5; decide)) (lsC_app (A) [(⟨t, al, w, ep + 1, tickV now⟩ : Ls)]) (by (try rw [List.length_append]); (try rw [List.length_singleton]); (have := hA); split at this <;> omega)) trivial rfl ?_
     refine .q (op_assign rfl) trivial rfl ?_
     refine .nil ?_
     show Ev _ _ _ _ _
     refine .region ?_
     refine .q (op_assign rfl) trivial rfl ?_
     refine .nil ?_
     show Ev _ _ _ _ _
     refine .region ?_
     refine .q (op_move rfl) trivial rfl ?_
     refine .q (op_loadRow Tryd.underlying70 rfl (by kernel_rfl) rfl rfl rfl (rfl)) trivial rfl ?_
     refine .a (op_buildRow (z := 5) (r := lsV ((L.getD i default))) (cs := Ls.cs ((L.getD i default))) Tryd.underlying30 infLeaseR (by decide) (by decide) rfl rfl rfl) trivial rfl ?_
     refine .a (ap_append (c' := .agg (lsC (A ++ [(⟨t, al, w, ep + 1, tickV now⟩ : Ls)] ++ [(L.getD i default)]))) Tryd.underlying30 Tryd.underlying30 (.inr ⟨_, rfl⟩) infLeaseR rfl rfl rfl rfl (by show (lsC _).length = _; rw [lsC_len]; first | done | (rw [List.length_append]; rfl)) (srcs_sl (m := 1) (o := 0) rfl rfl (by show 5 ≤ 5; decide)) (lsC_app (A ++ [(⟨t, al, w, ep + 1, tickV now⟩ : Ls)]) [(L.getD i default)]) (by (try rw [List.length_append]); (try rw [List.length_singleton]); (have := hA); split at this <;> omega)) trivial rfl ?_
     refine .q (op_assign rfl) trivial rfl ?_
     refine .nil ?_
     show Ev _ _ _ _ _
     refine .region ?_
     refine .q (op_addI rfl rfl ⟨by omega, by omega⟩) trivial rfl ?_
     refine .q (op_move rfl) trivial rfl ?_
     refine .nil ?_
     have hne : ¬ kEq (L.getD i default) (⟨t, al, w, ep + 1, tickV now⟩ : Ls) := fun hc => in_ne hc (by first | exact .inl hg105 | exact .inr hc110)
     have hd0 : d = false := by have h := hg113; cases d <;> first | rfl | cases h
     have hlt : kLt (⟨t, al, w, ep + 1, tickV now⟩ : Ls) (L.getD i default) := by first | exact .inl (of_decide_eq_true hg118) | exact .inr ⟨by simpa using hg123, of_decide_eq_true hc130⟩
     subst hd0
     exact ⟨⟨i + 1, ((A ++ [(⟨t, al, w, ep + 1, tickV now⟩ : Ls)]) ++ [(L.getD i default)]), true, hi2, ins_put hv hi2 hne hlt, len_put hA⟩, by show _ - (i + 1) < _ - i; omega, StLe.mk [(1000, 1000), (1008, 1008), (1016, 1016), (1024, 1024), (1032, 1072)] rfl rfl ⟨⟨_, rfl, by first | rfl | (simp only [AV.ren]; congr 1; omega), rfl⟩, ⟨_, rfl, by first | rfl | (simp only [AV.ren]; congr 1; omega), rfl⟩, ⟨_, rfl, by first | rfl | (simp only [AV.ren]; congr 1; omega), rfl⟩, ⟨_, rfl, by first | rfl | (simp only [AV.ren]; congr 1; omega), rfl⟩, ⟨_, rfl, by first | rfl | (simp only [AV.ren]; congr 1; omega), rfl⟩, ⟨_, rfl, by first | rfl | (simp only [AV.ren]; congr 1; omega), rfl⟩, ⟨_, rfl, by first | rfl | (simp only [AV.ren]; congr 1; omega), rfl⟩, ⟨_, rfl, by exact (sl_snoc2 1032 _ _ _), rfl⟩, ⟨_, rfl, by rfl, rfl⟩, ⟨_, rfl, by first | rfl | (simp only [AV.ren]; congr 1; omega), rfl⟩, ⟨_, rfl, by first | rfl | (simp only [AV.ren]; congr 1; omega), rfl⟩, ⟨_, rfl, by first | rfl | (simp only [AV.ren]; congr 1; omega), rfl⟩, trivial⟩ ⟨⟨_, _, rfl, rfl, rfl, rfl, id, rfl⟩, ⟨_, _, rfl, rfl, rfl, rfl, id, rfl⟩, ⟨_, _, rfl, rfl, rfl, rfl, id, rfl⟩, ⟨_, _, rfl, rfl, rfl, rfl, id, rfl⟩, ⟨_, _, rfl, rfl, lsC_ren _ _, rfl, id, lsC_nm _ _⟩, trivial⟩⟩
    ·skip
     refine .q (op_move rfl) ⟨_, rfl, rfl⟩ rfl ?_
     refine .q (op_fieldAddr (m := 0) Tryd.underlying70 rfl (by kernel_rfl) rfl) ⟨_, rfl, rfl⟩ rfl ?_
     refine .as (.ptr 1040 0) rfl ?_
     refine .q (op_load Tryd.underlying9 rfl rfl rfl rfl (by show 0 < 5; decide)) ⟨_, rfl, rfl⟩ rfl ?_
     refine .q (op_eqS rfl rfl rfl) ⟨_, rfl, rfl⟩ rfl ?_
     refine .q (op_move rfl) ⟨_, rfl, rfl⟩ rfl ?_
     refine .split (fun hg123 => ?_) (fun hg123 => ?_)
     ·skip
      refine .q (op_move rfl) ⟨_, rfl, rfl⟩ rfl ?_
      refine .q (op_fieldAddr (m := 0) Tryd.underlying70 rfl (by kernel_rfl) rfl) ⟨_, rfl, rfl⟩ rfl ?_
      refine .as (.ptr 1040 1) rfl ?_
      refine .q (op_load Tryd.underlying9 rfl rfl rfl rfl (by show 1 < 5; decide)) ⟨_, rfl, rfl⟩ rfl ?_
      refine .q (op_ltS rfl rfl) ⟨_, rfl, rfl⟩ rfl ?_
      refine .q (op_pick_true rfl rfl rfl) ⟨_, rfl, rfl⟩ rfl ?_
      refine .q (op_pick_false rfl rfl rfl) ⟨_, rfl, rfl⟩ rfl ?_
      refine .q (op_pick_true rfl rfl rfl) trivial rfl ?_
      refine .nil ?_
      show Ev _ _ _ _ _
      refine .cond rfl (fun hc130 => ?_) (fun hc130 => ?_)
      ·skip
       refine .seq ?_
       refine .region ?_
       refine .q (op_move rfl) trivial rfl ?_
       refine .q (op_loadRow Tryd.underlying70 rfl (by kernel_rfl) rfl rfl rfl (rfl)) trivial rfl ?_
       refine .a (op_buildRow (z := 5) (r := lsV ((⟨t, al, w, ep + 1, tickV now⟩ : Ls))) (cs := Ls.cs ((⟨t, al, w, ep + 1, tickV now⟩ : Ls))) Tryd.underlying30 infLeaseR (by decide) (by decide) rfl rfl rfl) trivial rfl ?_
       refine .a (ap_append (c' := .agg (lsC (A ++ [(⟨t, al, w, ep + 1, tickV now⟩ : Ls)]))) Tryd.underlying30 Tryd.underlying30 (.inr ⟨_, rfl⟩) infLeaseR rfl rfl rfl rfl (by show (lsC _).length = _; rw [lsC_len]; first | done | (rw [List.length_append]; rfl)) (srcs_sl (m := 1) (o := 0) rfl rfl (by show 5 ≤ 5; decide)) (lsC_app (A) [(⟨t, al, w, ep + 1, tickV now⟩ : Ls)]) (by (try rw [List.length_append]); (try rw [List.length_singleton]); (have := hA); split at this <;> omega)) trivial rfl ?_
       refine .q (op_assign rfl) trivial rfl ?_
       refine .nil ?_
       show Ev _ _ _ _ _
       refine .region ?_
       refine .q (op_assign rfl) trivial rfl ?_
       refine .nil ?_
       show Ev _ _ _ _ _
       refine .region ?_
       refine .q (op_move rfl) trivial rfl ?_
       refine .q (op_loadRow Tryd.underlying70 rfl (by kernel_rfl) rfl rfl rfl (rfl)) trivial rfl ?_
       refine .a (op_buildRow (z := 5) (r := lsV ((L.getD i default))) (cs := Ls.cs ((L.getD i default))) Tryd.underlying30 infLeaseR (by decide) (by decide) rfl rfl rfl) trivial rfl ?_
       refine .a (ap_append (c' := .agg (lsC (A ++ [(⟨t, al, w, ep + 1, tickV now⟩ : Ls)] ++ [(L.getD i default)]))) Tryd.underlying30 Tryd.underlying30 (.inr ⟨_, rfl⟩) infLeaseR rfl rfl rfl rfl (by show (lsC _).length = _; rw [lsC_len]; first | done | (rw [List.length_append]; rfl)) (srcs_sl (m := 1) (o := 0) rfl rfl (by show 5 ≤ 5; decide)) (lsC_app (A ++ [(⟨t, al, w, ep + 1, tickV now⟩ : Ls)]) [(L.getD i default)]) (by (try rw [List.length_append]); (try rw [List.length_singleton]); (have := hA); split at this <;> omega)) trivial rfl ?_
       refine .q (op_assign rfl) trivial rfl ?_
       refine .nil ?_
       show Ev _ _ _ _ _
       refine .region ?_
       refine .q (op_addI rfl rfl ⟨by omega, by omega⟩) trivial rfl ?_
       refine .q (op_move rfl) trivial rfl ?_
       refine .nil ?_
       have hne : ¬ kEq (L.getD i default) (⟨t, al, w, ep + 1, tickV now⟩ : Ls) := fun hc => in_ne hc (by first | exact .inl hg105 | exact .inr hc110)
       have hd0 : d = false := by have h := hg113; cases d <;> first | rfl | cases h
       have hlt : kLt (⟨t, al, w, ep + 1, tickV now⟩ : Ls) (L.getD i default) := by first | exact .inl (of_decide_eq_true hg118) | exact .inr ⟨by simpa using hg123, of_decide_eq_true hc130⟩
       subst hd0
       exact ⟨⟨i + 1, ((A ++ [(⟨t, al, w, ep + 1, tickV now⟩ : Ls)]) ++ [(L.getD i default)]), true, hi2, ins_put hv hi2 hne hlt, len_put hA⟩, by show _ - (i + 1) < _ - i; omega, StLe.mk [(1000, 1000), (1008, 1008), (1016, 1016), (1024, 1024), (1032, 1072)] rfl rfl ⟨⟨_, rfl, by first | rfl | (simp only [AV.ren]; congr 1; omega), rfl⟩, ⟨_, rfl, by first | rfl | (simp only [AV.ren]; congr 1; omega), rfl⟩, ⟨_, rfl, by first | rfl | (simp only [AV.ren]; congr 1; omega), rfl⟩, ⟨_, rfl, by first | rfl | (simp only [AV.ren]; congr 1; omega), rfl⟩, ⟨_, rfl, by first | rfl | (simp only [AV.ren]; congr 1; omega), rfl⟩, ⟨_, rfl, by first | rfl | (simp only [AV.ren]; congr 1; omega), rfl⟩, ⟨_, rfl, by first | rfl | (simp only [AV.ren]; congr 1; omega), rfl⟩, ⟨_, rfl, by exact (sl_snoc2 1032 _ _ _), rfl⟩, ⟨_, rfl, by rfl, rfl⟩, ⟨_, rfl, by first | rfl | (simp only [AV.ren]; congr 1; omega), rfl⟩, ⟨_, rfl, by first | rfl | (simp only [AV.ren]; congr 1; omega), rfl⟩, ⟨_, rfl, by first | rfl | (simp only [AV.ren]; congr 1; omega), rfl⟩, trivial⟩ ⟨⟨_, _, rfl, rfl, rfl, rfl, id, rfl⟩, ⟨_, _, rfl, rfl, rfl, rfl, id, rfl⟩, ⟨_, _, rfl, rfl, rfl, rfl, id, rfl⟩, ⟨_, _, rfl, rfl, rfl, rfl, id, rfl⟩, ⟨_, _, rfl, rfl, lsC_ren _ _, rfl, id, lsC_nm _ _⟩, trivial⟩⟩
      ·skip
       refine .skip ?_
       show Ev _ _ _ _ _
       refine .region ?_
       refine .q (op_move rfl) trivial rfl ?_
       refine .q (op_loadRow Tryd.underlying70 rfl (by kernel_rfl) rfl rfl rfl (rfl)) trivial rfl ?_
       refine .a (op_buildRow (z := 5) (r := lsV ((L.getD i default))) (cs := Ls.cs ((L.getD i default))) Tryd.underlying30 infLeaseR (by decide) (by decide) rfl rfl rfl) trivial rfl ?_
       refine .a (ap_append (c' := .agg (lsC (A ++ [(L.getD i default)]))) Tryd.underlying30 Tryd.underlying30 (.inr ⟨_, rfl⟩) infLeaseR rfl rfl rfl rfl (by show (lsC _).length = _; rw [lsC_len]; first | done | (rw [List.length_append]; rfl)) (srcs_sl (m := 1) (o := 0) rfl rfl (by show 5 ≤ 5; decide)) (lsC_app (A) [(L.getD i default)]) (by (try rw [List.length_append]); (try rw [List.length_singleton]); (have := hA); split at this <;> omega)) trivial rfl ?_
       refine .q (op_assign rfl) trivial rfl ?_
       refine .nil ?_
       show Ev _ _ _ _ _
       refine .region ?_
       refine .q (op_addI rfl rfl ⟨by omega, by omega⟩) trivial rfl ?_
       refine .q (op_move rfl) trivial rfl ?_
       refine .nil ?_
       have hne : ¬ kEq (L.getD i default) (⟨t, al, w, ep + 1, tickV now⟩ : Ls) := fun hc => in_ne hc (by first | exact .inl hg105 | exact .inr hc110)
       have hnl : (!d && decide (kLt (⟨t, al, w, ep + 1, tickV now⟩ : Ls) (L.getD i default))) = false := by first | (rw [hg113]; rfl) | exact in_nl (by first | exact .inl ⟨hg118, hg123⟩ | exact .inr ⟨hg118, hc130⟩)
       exact ⟨⟨i + 1, (A ++ [(L.getD i default)]), d, hi2, ins_keep hv hi2 hne hnl, len_keep hA⟩, by show _ - (i + 1) < _ - i; omega, StLe.mk [(1000, 1000), (1008, 1008), (1016, 1016), (1024, 1024), (1032, 1056)] rfl rfl ⟨⟨_, rfl, by first | rfl | (simp only [AV.ren]; congr 1; omega), rfl⟩, ⟨_, rfl, by first | rfl | (simp only [AV.ren]; congr 1; omega), rfl⟩, ⟨_, rfl, by first | rfl | (simp only [AV.ren]; congr 1; omega), rfl⟩, ⟨_, rfl, by first | rfl | (simp only [AV.ren]; congr 1; omega), rfl⟩, ⟨_, rfl, by first | rfl | (simp only [AV.ren]; congr 1; omega), rfl⟩, ⟨_, rfl, by first | rfl | (simp only [AV.ren]; congr 1; omega), rfl⟩, ⟨_, rfl, by first | rfl | (simp only [AV.ren]; congr 1; omega), rfl⟩, ⟨_, rfl, by exact (sl_snoc 1032 _ _), rfl⟩, ⟨_, rfl, by rfl, rfl⟩, ⟨_, rfl, by first | rfl | (simp only [AV.ren]; congr 1; omega), rfl⟩, ⟨_, rfl, by first | rfl | (simp only [AV.ren]; congr 1; omega), rfl⟩, ⟨_, rfl, by first | rfl | (simp only [AV.ren]; congr 1; omega), rfl⟩, trivial⟩ ⟨⟨_, _, rfl, rfl, rfl, rfl, id, rfl⟩, ⟨_, _, rfl, rfl, rfl, rfl, id, rfl⟩, ⟨_, _, rfl, rfl, rfl, rfl, id, rfl⟩, ⟨_, _, rfl, rfl, rfl, rfl, id, rfl⟩, ⟨_, _, rfl, rfl, lsC_ren _ _, rfl, id, lsC_nm _ _⟩, trivial⟩⟩
     ·skip
      refine .no ⟨_, rfl, rfl⟩ rfl ?_
      refine .no ⟨_, rfl, rfl⟩ rfl ?_
      refine .no ⟨_, rfl, rfl⟩ rfl ?_
      refine .no ⟨_, rfl, rfl⟩ rfl ?_
      refine .q (op_pick_false rfl rfl rfl) ⟨_, rfl, rfl⟩ rfl ?_
      refine .q (op_pick_false rfl rfl rfl) ⟨_, rfl, rfl⟩ rfl ?_
      refine .q (op_pick_true rfl rfl rfl) trivial rfl ?_
      refine .nil ?_
      show Ev _ _ _ _ _
      refine .cond_false rfl rfl ?_
      refine .skip ?_
      show Ev _ _ _ _ _
      refine .region ?_
      refine .q (op_move rfl) trivial rfl ?_
      refine .q (op_loadRow Tryd.underlying70 rfl (by kernel_rfl) rfl rfl rfl (rfl)) trivial rfl ?_
      refine .a (op_buildRow (z := 5) (r := lsV ((L.getD i default))) (cs := Ls.cs ((L.getD i default))) Tryd.underlying30 infLeaseR (by decide) (by decide) rfl rfl rfl) trivial rfl ?_
      refine .a (ap_append (c' := .agg (lsC (A ++ [(L.getD i default)]))) Tryd.underlying30 Tryd.underlying30 (.inr ⟨_, rfl⟩) infLeaseR rfl rfl rfl rfl (by show (lsC _).length = _; rw [lsC_len]; first | done | (rw [List.length_append]; rfl)) (srcs_sl (m := 1) (o := 0) rfl rfl (by show 5 ≤ 5; decide)) (lsC_app (A) [(L.getD i default)]) (by (try rw [List.length_append]); (try rw [List.length_singleton]); (have := hA); split at this <;> omega)) trivial rfl ?_
      refine .q (op_assign rfl) trivial rfl ?_
      refine .nil ?_
      show Ev _ _ _ _ _
      refine .region ?_
      refine .q (op_addI rfl rfl ⟨by omega, by omega⟩) trivial rfl ?_
      refine .q (op_move rfl) trivial rfl ?_
      refine .nil ?_
      have hne : ¬ kEq (L.getD i default) (⟨t, al, w, ep + 1, tickV now⟩ : Ls) := fun hc => in_ne hc (by first | exact .inl hg105 | exact .inr hc110)
      have hnl : (!d && decide (kLt (⟨t, al, w, ep + 1, tickV now⟩ : Ls) (L.getD i default))) = false := by first | (rw [hg113]; rfl) | exact in_nl (by first | exact .inl ⟨hg118, hg123⟩ | exact .inr ⟨hg118, hc130⟩)
      exact ⟨⟨i + 1, (A ++ [(L.getD i default)]), d, hi2, ins_keep hv hi2 hne hnl, len_keep hA⟩, by show _ - (i + 1) < _ - i; omega, StLe.mk [(1000, 1000), (1008, 1008), (1016, 1016), (1024, 1024), (1032, 1056)] rfl rfl ⟨⟨_, rfl, by first | rfl | (simp only [AV.ren]; congr 1; omega), rfl⟩, ⟨_, rfl, by first | rfl | (simp only [AV.ren]; congr 1; omega), rfl⟩, ⟨_, rfl, by first | rfl | (simp only [AV.ren]; congr 1; omega), rfl⟩, ⟨_, rfl, by first | rfl | (simp only [AV.ren]; congr 1; omega), rfl⟩, ⟨_, rfl, by first | rfl | (simp only [AV.ren]; congr 1; omega), rfl⟩, ⟨_, rfl, by first | rfl | (simp only [AV.ren]; congr 1; omega), rfl⟩, ⟨_, rfl, by first | rfl | (simp only [AV.ren]; congr 1; omega), rfl⟩, ⟨_, rfl, by exact (sl_snoc 1032 _ _), rfl⟩, ⟨_, rfl, by rfl, rfl⟩, ⟨_, rfl, by first | rfl | (simp only [AV.ren]; congr 1; omega), rfl⟩, ⟨_, rfl, by first | rfl | (simp only [AV.ren]; congr 1; omega), rfl⟩, ⟨_, rfl, by first | rfl | (simp only [AV.ren]; congr 1; omega), rfl⟩, trivial⟩ ⟨⟨_, _, rfl, rfl, rfl, rfl, id, rfl⟩, ⟨_, _, rfl, rfl, rfl, rfl, id, rfl⟩, ⟨_, _, rfl, rfl, rfl, rfl, id, rfl⟩, ⟨_, _, rfl, rfl, rfl, rfl, id, rfl⟩, ⟨_, _, rfl, rfl, lsC_ren _ _, rfl, id, lsC_nm _ _⟩, trivial⟩⟩
   ·skip
    refine .no ⟨_, rfl, rfl⟩ rfl ?_
    refine .no ⟨_, rfl, rfl⟩ rfl ?_
    refine .no ⟨_, rfl, rfl⟩ rfl ?_
    refine .no ⟨_, rfl, rfl⟩ rfl ?_
    refine .no ⟨_, rfl, rfl⟩ rfl ?_
    refine .noU ⟨_, rfl, rfl⟩ rfl ?_
    refine .noU ⟨_, rfl, rfl⟩ rfl ?_
    refine .noU ⟨_, rfl, rfl⟩ rfl ?_
    refine .noU ⟨_, rfl, rfl⟩ rfl ?_
    refine .noU ⟨_, rfl, rfl⟩ rfl ?_
    refine .noU ⟨_, rfl, rfl⟩ rfl ?_
    refine .noU ⟨_, rfl, rfl⟩ rfl ?_
    refine .noU ⟨_, rfl, rfl⟩ rfl ?_
    refine .noU ⟨_, rfl, rfl⟩ rfl ?_
    refine .noU ⟨_, rfl, rfl⟩ rfl ?_
    refine .no ⟨_, rfl, rfl⟩ rfl ?_
    refine .q (op_pick_false rfl rfl rfl) trivial rfl ?_
    refine .nil ?_
    show Ev _ _ _ _ _
    refine .cond_false rfl rfl ?_
    refine .skip ?_
    show Ev _ _ _ _ _
    refine .region ?_
    refine .q (op_move rfl) trivial rfl ?_
    refine .q (op_loadRow Tryd.underlying70 rfl (by kernel_rfl) rfl rfl rfl (rfl)) trivial rfl ?_
    refine .a (op_buildRow (z := 5) (r := lsV ((L.getD i default))) (cs := Ls.cs ((L.getD i default))) Tryd.underlying30 infLeaseR (by decide) (by decide) rfl rfl rfl) trivial rfl ?_
    refine .a (ap_append (c' := .agg (lsC (A ++ [(L.getD i default)]))) Tryd.underlying30 Tryd.underlying30 (.inr ⟨_, rfl⟩) infLeaseR rfl rfl rfl rfl (by show (lsC _).length = _; rw [lsC_len]; first | done | (rw [List.length_append]; rfl)) (srcs_sl (m := 1) (o := 0) rfl rfl (by show 5 ≤ 5; decide)) (lsC_app (A) [(L.getD i default)]) (by (try rw [List.length_append]); (try rw [List.length_singleton]); (have := hA); split at this <;> omega)) trivial rfl ?_
    refine .q (op_assign rfl) trivial rfl ?_
    refine .nil ?_
    show Ev _ _ _ _ _
    refine .region ?_
    refine .q (op_addI rfl rfl ⟨by omega, by omega⟩) trivial rfl ?_
    refine .q (op_move rfl) trivial rfl ?_
    refine .nil ?_
    have hne : ¬ kEq (L.getD i default) (⟨t, al, w, ep + 1, tickV now⟩ : Ls) := fun hc => in_ne hc (by first | exact .inl hg105 | exact .inr hc110)
    have hnl : (!d && decide (kLt (⟨t, al, w, ep + 1, tickV now⟩ : Ls) (L.getD i default))) = false := by first | (rw [hg113]; rfl) | exact in_nl (by first | exact .inl ⟨hg118, hg123⟩ | exact .inr ⟨hg118, hc130⟩)
    exact ⟨⟨i + 1, (A ++ [(L.getD i default)]), d, hi2, ins_keep hv hi2 hne hnl, len_keep hA⟩, by show _ - (i + 1) < _ - i; omega, StLe.mk [(1000, 1000), (1008, 1008), (1016, 1016), (1024, 1024), (1032, 1056)] rfl rfl ⟨⟨_, rfl, by first | rfl | (simp only [AV.ren]; congr 1; omega), rfl⟩, ⟨_, rfl, by first | rfl | (simp only [AV.ren]; congr 1; omega), rfl⟩, ⟨_, rfl, by first | rfl | (simp only [AV.ren]; congr 1; omega), rfl⟩, ⟨_, rfl, by first | rfl | (simp only [AV.ren]; congr 1; omega), rfl⟩, ⟨_, rfl, by first | rfl | (simp only [AV.ren]; congr 1; omega), rfl⟩, ⟨_, rfl, by first | rfl | (simp only [AV.ren]; congr 1; omega), rfl⟩, ⟨_, rfl, by first | rfl | (simp only [AV.ren]; congr 1; omega), rfl⟩, ⟨_, rfl, by exact (sl_snoc 1032 _ _), rfl⟩, ⟨_, rfl, by rfl, rfl⟩, ⟨_, rfl, by first | rfl | (simp only [AV.ren]; congr 1; omega), rfl⟩, ⟨_, rfl, by first | rfl | (simp only [AV.ren]; congr 1; omega), rfl⟩, ⟨_, rfl, by first | rfl | (simp only [AV.ren]; congr 1; omega), rfl⟩, trivial⟩ ⟨⟨_, _, rfl, rfl, rfl, rfl, id, rfl⟩, ⟨_, _, rfl, rfl, rfl, rfl, id, rfl⟩, ⟨_, _, rfl, rfl, rfl, rfl, id, rfl⟩, ⟨_, _, rfl, rfl, rfl, rfl, id, rfl⟩, ⟨_, _, rfl, rfl, lsC_ren _ _, rfl, id, lsC_nm _ _⟩, trivial⟩⟩
 ·skip
  refine .exit ?_
  show Ev _ _ _ _ _
  refine .seq ?_
  refine .seq ?_
  refine .region ?_
  have hle : L.length ≤ i := by have := of_decide_eq_false hc98; omega
  refine .q (op_move rfl) trivial rfl ?_
  refine .q (op_notB rfl) trivial rfl ?_
  refine .nil ?_
  show Ev _ _ _ _ _
  refine .cond rfl (fun hc141 => ?_) (fun hc141 => ?_)
  ·skip
   refine .region ?_
   refine .q (op_move rfl) trivial rfl ?_
   refine .q (op_loadRow Tryd.underlying70 rfl (by kernel_rfl) rfl rfl rfl (rfl)) trivial rfl ?_
   refine .a (op_buildRow (z := 5) (r := lsV ((⟨t, al, w, ep + 1, tickV now⟩ : Ls))) (cs := Ls.cs ((⟨t, al, w, ep + 1, tickV now⟩ : Ls))) Tryd.underlying30 infLeaseR (by decide) (by decide) rfl rfl rfl) trivial rfl ?_
   refine .a (ap_append (c' := .agg (lsC (A ++ [(⟨t, al, w, ep + 1, tickV now⟩ : Ls)]))) Tryd.underlying30 Tryd.underlying30 (.inr ⟨_, rfl⟩) infLeaseR rfl rfl rfl rfl (by show (lsC _).length = _; rw [lsC_len]; first | done | (rw [List.length_append]; rfl)) (srcs_sl (m := 1) (o := 0) rfl rfl (by show 5 ≤ 5; decide)) (lsC_app (A) [(⟨t, al, w, ep + 1, tickV now⟩ : Ls)]) (by (try rw [List.length_append]); (try rw [List.length_singleton]); (have := hA); split at this <;> omega)) trivial rfl ?_
   refine .q (op_assign rfl) trivial rfl ?_
   refine .nil ?_
   show Ev _ _ _ _ _
   refine .seq ?_
   refine .region ?_
   refine .q (op_move rfl) trivial rfl ?_
   refine EvL.freezeF (t := 146) (b := 1048) (o := 0) (n := A.length + 1) (z := 5) (e := 70) (c := .agg (lsC (A ++ [(⟨t, al, w, ep + 1, tickV now⟩ : Ls)]))) (Nat.le_of_ble_eq_true rfl) rfl rfl (by show 0 + _ * 5 ≤ (lsC _).length; rw [lsC_len, List.length_append, List.length_singleton]; omega) (lsC_still _) ?_
   refine .as (.fsl (lsC (insL (⟨t, al, w, ep + 1, tickV now⟩ : Ls) false L)) (insL (⟨t, al, w, ep + 1, tickV now⟩ : Ls) false L).length 5) (by rw [fsl_whole _ (show A.length + 1 = (A ++ [(⟨t, al, w, ep + 1, tickV now⟩ : Ls)]).length by rw [List.length_append]; rfl), ins_last (A := A) (i := i) (by have h := hc141; cases d <;> first | exact hv | cases h) (by omega)]) ?_
   refine .q (op_fieldAddr (m := 0) Tryd.underlying32 rfl (by kernel_rfl) rfl) trivial rfl ?_
   refine .as (.ptr 1000 4) rfl ?_
   refine .w (op_store (by kernel_rfl) rfl rfl rfl rfl rfl (by show 4 < 5; decide)) trivial rfl ?_
   refine .nil ?_
   show Ev _ _ _ _ _
   refine .seq ?_
   refine .drawnF [[], [], [], [0], [0, 1, 3], [0, 1, 2, 3, 4], [0, 1, 2, 3, 4, 5]] [0, 1, 3, 4] [] [(0, ([1000], [])), (1, ([1024], [])), (3, ([], [1008])), (4, ([], [1016]))] (by kernel_rfl) (by kernel_rfl) rfl ?_
   show DK _ [0, 1, 2, 3, 4, 5, 6] _ _ _
   refine .q rfl (op_loadRow Tryd.underlying32 rfl (by kernel_rfl) rfl rfl rfl (rfl)) trivial ?_
   refine .q rfl (op_loadRow Tryd.underlying70 rfl (by kernel_rfl) rfl rfl rfl (rfl)) trivial ?_
   refine .q rfl (op_move rfl) trivial ?_
   refine .w rfl (op_storeRow (by kernel_rfl) rfl rfl rfl rfl rfl (rfl) (rfl)) trivial rfl rfl ?_
   refine .w rfl (op_storeRow (by kernel_rfl) rfl rfl rfl rfl rfl (rfl) (rfl)) trivial rfl rfl ?_
   refine .q rfl (op_assign rfl) trivial ?_
   refine .q rfl (op_assign rfl) trivial ?_
   refine .nil ?_
   show Ev _ _ _ _ _
   refine .ret ?_
   show RetOk _ _ _ _ _ _ _
   exact retc4 rfl (.inl rfl) ⟨_, _, _, _, rfl, rfl, rfl, rfl, rfl, Tryd.underlying32, rfl, sz32⟩ ⟨_, _, _, _, rfl, rfl, rfl, rfl, rfl, Tryd.underlying70, rfl, sz70⟩ rfl rfl trivial
  ·skip
   refine .skip ?_
   show Ev _ _ _ _ _
   refine .seq ?_
   refine .region ?_
   refine .q (op_move rfl) trivial rfl ?_
   refine EvL.freezeF (t := 146) (b := 1032) (o := 0) (n := A.length) (z := 5) (e := 70) (c := .agg (lsC (A))) (Nat.le_of_ble_eq_true rfl) rfl rfl (by show 0 + _ * 5 ≤ (lsC _).length; rw [lsC_len]; omega) (lsC_still _) ?_
   refine .as (.fsl (lsC (insL (⟨t, al, w, ep + 1, tickV now⟩ : Ls) false L)) (insL (⟨t, al, w, ep + 1, tickV now⟩ : Ls) false L).length 5) (by rw [fsl_whole _ rfl, ins_done (A := A) (i := i) (by have h := hc141; cases d <;> first | exact hv | cases h) (by omega)]) ?_
   refine .q (op_fieldAddr (m := 0) Tryd.underlying32 rfl (by kernel_rfl) rfl) trivial rfl ?_
   refine .as (.ptr 1000 4) rfl ?_
   refine .w (op_store (by kernel_rfl) rfl rfl rfl rfl rfl (by show 4 < 5; decide)) trivial rfl ?_
   refine .nil ?_
   show Ev _ _ _ _ _
   refine .seq ?_
   refine .drawnF [[], [], [], [0], [0, 1, 3], [0, 1, 2, 3, 4], [0, 1, 2, 3, 4, 5]] [0, 1, 3, 4] [] [(0, ([1000], [])), (1, ([1024], [])), (3, ([], [1008])), (4, ([], [1016]))] (by kernel_rfl) (by kernel_rfl) rfl ?_
   show DK _ [0, 1, 2, 3, 4, 5, 6] _ _ _
   refine .q rfl (op_loadRow Tryd.underlying32 rfl (by kernel_rfl) rfl rfl rfl (rfl)) trivial ?_
   refine .q rfl (op_loadRow Tryd.underlying70 rfl (by kernel_rfl) rfl rfl rfl (rfl)) trivial ?_
   refine .q rfl (op_move rfl) trivial ?_
   refine .w rfl (op_storeRow (by kernel_rfl) rfl rfl rfl rfl rfl (rfl) (rfl)) trivial rfl rfl ?_
   refine .w rfl (op_storeRow (by kernel_rfl) rfl rfl rfl rfl rfl (rfl) (rfl)) trivial rfl rfl ?_
   refine .q rfl (op_assign rfl) trivial ?_
   refine .q rfl (op_assign rfl) trivial ?_
   refine .nil ?_
   show Ev _ _ _ _ _
   refine .ret ?_
   show RetOk _ _ _ _ _ _ _
   exact retc4 rfl (.inl rfl) ⟨_, _, _, _, rfl, rfl, rfl, rfl, rfl, Tryd.underlying32, rfl, sz32⟩ ⟨_, _, _, _, rfl, rfl, rfl, rfl, rfl, Tryd.underlying70, rfl, sz70⟩ rfl rfl trivial
set_option maxRecDepth 100000 in
theorem rtakeI_ev (a b c ep : Int) (L : List Ls) (hlen : L.length ≤ 4096) (t al : List UInt8) (w now : Int) (ht : t.length ≤ 9223372036854775000) (ha : al.length ≤ 9223372036854775000) (hvt : nameN t = true) (hva : nameN al = true) (hk : atI t al 0 L = -1) (hq : ¬ a ≤ ((L.filter (fun x => x.t == t)).length : Nat)) (hf : ¬ b ≤ (L.length : Nat)) (hep : 0 ≤ ep ∧ ep ≤ 1000000000)  : Meets Tryd.prog 34 [.agg [.i64 a, .i64 b, .i64 c, .i64 ep, .fsl (lsC L) L.length 5], .str t, .str al, .i64 w, .i64 now] [] (.tup [.agg [.i64 a, .i64 b, .i64 c, .i64 (ep + 1), .fsl (lsC (insL (⟨t, al, w, ep + 1, tickV now⟩ : Ls) false L)) (insL (⟨t, al, w, ep + 1, tickV now⟩ : Ls) false L).length 5], lsV (⟨t, al, w, ep + 1, tickV now⟩ : Ls), .i64 (-1), .i64 0]) [] := by
 refine meets_of_ev (nt := 151) Tryd.func34 rfl rfl (Nat.le_of_ble_eq_true rfl) ?_
 refine .seq ?_
 refine .region ?_
 refine .a (op_boxRow rfl rfl) trivial rfl ?_
 refine .a (op_allocRow zero32 rel_zero32 rfl) trivial rfl ?_
 refine .a (op_allocRow zero70 rel_zero70 rfl) trivial rfl ?_
 refine .q (op_assign rfl) trivial rfl ?_
 refine .q (op_assign rfl) trivial rfl ?_
 refine .nil ?_
 show Ev _ _ _ _ _
 refine .seq ?_
 refine .seq ?_
 refine .region ?_
 refine .q (op_move rfl) trivial rfl ?_
 refine .q (op_call (U := []) [] [] (rvalid_ev t ht) Tryd.func10 (by kernel_rfl) rfl rfl rfl (⟨⟨_, rfl, rfl, rfl⟩, trivial⟩) (trivial) (trivial) (trivial) rfl) trivial rfl ?_
 refine .q (op_notB rfl) trivial rfl ?_
 refine .q (op_move rfl) trivial rfl ?_
 refine .know (b' := false) (by show (!nameN _) = false; rw [hvt]; rfl) ?_
 refine .q (op_move rfl) ⟨_, rfl, rfl⟩ rfl ?_
 refine .q (op_call (U := []) [] [] (rvalid_ev al ha) Tryd.func10 (by kernel_rfl) rfl rfl rfl (⟨⟨_, rfl, rfl, rfl⟩, trivial⟩) (trivial) (trivial) (trivial) rfl) ⟨_, rfl, rfl⟩ rfl ?_
 refine .q (op_notB rfl) ⟨_, rfl, rfl⟩ rfl ?_
 refine .q (op_pick_false rfl rfl rfl) trivial rfl ?_
 refine .nil ?_
 show Ev _ _ _ _ _
 refine .cond_false rfl (by first | rfl | (show (!nameN _) = false; rw [hva]; rfl)) ?_
 refine .skip ?_
 show Ev _ _ _ _ _
 refine .seq ?_
 refine .region ?_
 refine .q (op_loadRow Tryd.underlying32 rfl (by kernel_rfl) rfl rfl rfl (rfl)) trivial rfl ?_
 refine .q (op_move rfl) trivial rfl ?_
 refine .q (op_move rfl) trivial rfl ?_
 refine .q (op_call (U := []) [] [] (rat_ev a b c ep L hlen t al) Tryd.func31 (by kernel_rfl) rfl rfl rfl (⟨⟨_, rfl, rfl, rfl⟩, ⟨_, rfl, rfl, rfl⟩, ⟨_, rfl, rfl, rfl⟩, trivial⟩) (trivial) (trivial) (trivial) rfl) trivial rfl ?_
 refine .as (.i64 (-1)) (congrArg AV.i64 hk) ?_
 refine .q (op_assign rfl) trivial rfl ?_
 refine .nil ?_
 show Ev _ _ _ _ _
 refine .seq ?_
 refine .region ?_
 refine .q (op_assign rfl) trivial rfl ?_
 refine .nil ?_
 show Ev _ _ _ _ _
 refine .seq ?_
 refine .seq ?_
 refine .region ?_
 refine .q (op_move rfl) trivial rfl ?_
 refine .q (op_cmpI rfl rfl rfl) trivial rfl ?_
 refine .q (op_move rfl) trivial rfl ?_
 refine .know (b' := false) (rfl) ?_
 refine .no ⟨_, rfl, rfl⟩ rfl ?_
 refine .no ⟨_, rfl, rfl⟩ rfl ?_
 refine .no ⟨_, rfl, rfl⟩ rfl ?_
 refine .no ⟨_, rfl, rfl⟩ rfl ?_
 refine .no ⟨_, rfl, rfl⟩ rfl ?_
 refine .no ⟨_, rfl, rfl⟩ rfl ?_
 refine .no ⟨_, rfl, rfl⟩ rfl ?_
 refine .no ⟨_, rfl, rfl⟩ rfl ?_
 refine .q (op_pick_false rfl rfl rfl) trivial rfl ?_
 refine .nil ?_
 show Ev _ _ _ _ _
 refine .cond_false rfl rfl ?_
 refine .skip ?_
 show Ev _ _ _ _ _
 refine .seq ?_
 refine .seq ?_
 refine .region ?_
 refine .q (op_move rfl) trivial rfl ?_
 refine .q (op_cmpI rfl rfl rfl) trivial rfl ?_
 refine .nil ?_
 show Ev _ _ _ _ _
 refine .cond_false rfl (rfl) ?_
 refine .skip ?_
 show Ev _ _ _ _ _
 refine .seq ?_
 refine .seq ?_
 refine .drawn [[], [0], [0, 1], [0, 1, 2], [0, 1, 2], [0, 1, 2, 3, 4], [0, 1, 2], [0, 1, 2, 6], [0, 1, 2, 3, 4, 5, 6, 7], [0, 1, 2, 3, 4, 5, 6, 7, 8]] [3, 5, 7] [] (by kernel_rfl) (by kernel_rfl) rfl ?_
 show DK _ [0, 1, 2, 3, 4, 5, 6, 7, 8, 9] _ _ _
 refine .q rfl (op_move rfl) trivial ?_
 refine .q rfl (op_cmpI rfl rfl rfl) trivial ?_
 refine .q rfl (op_move rfl) trivial ?_
 refine .know (b' := true) (rfl) ?_
 refine .q rfl (op_loadRow Tryd.underlying32 rfl (by kernel_rfl) rfl rfl rfl (rfl)) ⟨_, rfl, rfl⟩ ?_
 refine .q rfl (op_move rfl) ⟨_, rfl, rfl⟩ ?_
 refine .q rfl (op_call (U := []) [] [] (rcount_ev a b c ep L hlen t) Tryd.func18 (by kernel_rfl) rfl rfl rfl (⟨⟨_, rfl, rfl, rfl⟩, ⟨_, rfl, rfl, rfl⟩, trivial⟩) (trivial) (trivial) (trivial) rfl) ⟨_, rfl, rfl⟩ ?_
 refine .q rfl (op_fieldAddr (m := 0) Tryd.underlying32 rfl (by kernel_rfl) rfl) ⟨_, rfl, rfl⟩ ?_
 refine .as (.ptr 1000 0) rfl ?_
 refine .q rfl (op_load Tryd.underlying3 rfl rfl rfl rfl (by show 0 < 5; decide)) ⟨_, rfl, rfl⟩ ?_
 refine .q rfl (op_cmpI rfl rfl rfl) ⟨_, rfl, rfl⟩ ?_
 refine .q rfl (op_pick_true rfl rfl rfl) trivial ?_
 refine .nil ?_
 show Ev _ _ _ _ _
 refine .cond_false rfl (decide_eq_false hq) ?_
 refine .skip ?_
 show Ev _ _ _ _ _
 refine .seq ?_
 refine .seq ?_
 refine .region ?_
 refine .q (op_move rfl) trivial rfl ?_
 refine .q (op_cmpI rfl rfl rfl) trivial rfl ?_
 refine .q (op_move rfl) trivial rfl ?_
 refine .know (b' := true) (rfl) ?_
 refine .q (op_fieldAddr (m := 0) Tryd.underlying32 rfl (by kernel_rfl) rfl) ⟨_, rfl, rfl⟩ rfl ?_
 refine .as (.ptr 1000 4) rfl ?_
 refine .q (op_load Tryd.underlying30 rfl rfl rfl rfl (by show 4 < 5; decide)) ⟨_, rfl, rfl⟩ rfl ?_
 refine .q (op_len_fsl Tryd.underlying30 rfl) ⟨_, rfl, rfl⟩ rfl ?_
 refine .q (op_fieldAddr (m := 0) Tryd.underlying32 rfl (by kernel_rfl) rfl) ⟨_, rfl, rfl⟩ rfl ?_
 refine .as (.ptr 1000 1) rfl ?_
 refine .q (op_load Tryd.underlying3 rfl rfl rfl rfl (by show 1 < 5; decide)) ⟨_, rfl, rfl⟩ rfl ?_
 refine .q (op_cmpI rfl rfl rfl) ⟨_, rfl, rfl⟩ rfl ?_
 refine .q (op_pick_true rfl rfl rfl) trivial rfl ?_
 refine .nil ?_
 show Ev _ _ _ _ _
 refine .cond_false rfl (decide_eq_false hf) ?_
 refine .skip ?_
 show Ev _ _ _ _ _
 refine .seq ?_
 refine .region ?_
 refine .q (op_fieldAddr (m := 0) Tryd.underlying32 rfl (by kernel_rfl) rfl) trivial rfl ?_
 refine .as (.ptr 1000 3) rfl ?_
 refine .q (op_load Tryd.underlying3 rfl rfl rfl rfl (by show 3 < 5; decide)) trivial rfl ?_
 refine .q (op_addI rfl rfl ⟨by omega, by omega⟩) trivial rfl ?_
 refine .q (op_fieldAddr (m := 0) Tryd.underlying32 rfl (by kernel_rfl) rfl) trivial rfl ?_
 refine .as (.ptr 1000 3) rfl ?_
 refine .w (op_store inf3.sz rfl rfl rfl rfl rfl (by show 3 < 5; decide)) trivial rfl ?_
 refine .nil ?_
 show Ev _ _ _ _ _
 refine .seq ?_
 refine .drawn [[], [], [], [], [3], [], [5], [0, 1, 2, 3, 4, 5, 6], [], [0, 1, 2, 3, 4, 5, 6, 7, 8]] [4, 6, 8, 9] [9] (by kernel_rfl) (by kernel_rfl) rfl ?_
 show DK _ [0, 1, 2, 3, 4, 5, 6, 7, 8, 9] _ _ _
 refine .q rfl (op_move rfl) trivial ?_
 refine .q rfl (op_move rfl) trivial ?_
 refine .q rfl (op_move rfl) trivial ?_
 refine .q rfl (op_fieldAddr (m := 0) Tryd.underlying32 rfl (by kernel_rfl) rfl) trivial ?_
 refine .as (.ptr 1000 3) rfl ?_
 refine .q rfl (op_load Tryd.underlying3 rfl rfl rfl rfl (by show 3 < 5; decide)) trivial ?_
 refine .q rfl (op_move rfl) trivial ?_
 refine .q rfl (op_call (U := []) [] [] (rtick_ev now) Tryd.func49 (by kernel_rfl) rfl rfl rfl (⟨⟨_, rfl, rfl, rfl⟩, trivial⟩) (trivial) (trivial) (trivial) rfl) trivial ?_
 refine .q rfl (op_buildS (r := .agg _) Tryd.underlying70 rfl zero70 rel_zero70 rfl rfl rfl rfl) trivial ?_
 refine .a rfl (op_allocRow zero70 rel_zero70 rfl) trivial rfl rfl ?_
 refine .w rfl (op_storeRow (by kernel_rfl) rfl rfl rfl rfl rfl (rfl) (rfl)) trivial rfl rfl ?_
 refine .nil ?_
 show Ev _ _ _ _ _
 refine .seq ?_
 refine .region ?_
 refine .a (ap_build0 (c := .agg (lsC [])) Tryd.underlying30 infLeaseR rfl) trivial rfl ?_
 refine .q (op_assign rfl) trivial rfl ?_
 refine .nil ?_
 show Ev _ _ _ _ _
 refine .seq ?_
 refine .region ?_
 refine .q (op_assign rfl) trivial rfl ?_
 refine .nil ?_
 show Ev _ _ _ _ _
 refine .seq ?_
 refine .seq ?_
 refine .region ?_
 refine .q (op_fieldAddr (m := 0) Tryd.underlying32 rfl (by kernel_rfl) rfl) trivial rfl ?_
 refine .as (.ptr 1000 4) rfl ?_
 refine .q (op_load Tryd.underlying30 rfl rfl rfl rfl (by show 4 < 5; decide)) trivial rfl ?_
 refine .q (op_len_fsl Tryd.underlying30 rfl) trivial rfl ?_
 refine .q (op_move rfl) trivial rfl ?_
 refine .nil ?_
 show Ev _ _ _ _ _
 refine .block ?_
 refine Ev.loop (ι := IN L (⟨t, al, w, ep + 1, tickV now⟩ : Ls)) (fun q => ⟨[(1, .str t), (2, .str al), (5, .ptr 1000 0), (10, .ptr 1008 0), (11, .ptr 1016 0), (15, .i64 (-1)), (16, .ptr 1024 0), (17, .sl 1032 0 (q.A).length 5), (18, .bool q.d), (95, .fsl (lsC L) L.length 5), (96, .i64 ((L.length : Nat) : Int)), (97, .i64 ((q.i : Nat) : Int))], [(1000, some ⟨.agg [.i64 a, .i64 b, .i64 c, .i64 (ep + 1), .fsl (lsC L) L.length 5], 32, true⟩), (1008, some ⟨.agg [.i64 0, .i64 0, .i64 0, .i64 0, .nilsl], 32, true⟩), (1016, some ⟨.agg [.str [], .str [], .i64 0, .i64 0, .i64 0], 70, true⟩), (1024, some ⟨lsV (⟨t, al, w, ep + 1, tickV now⟩ : Ls), 70, true⟩), (1032, some ⟨.agg (lsC (q.A)), 70, true⟩)], 1040⟩) (fun q => L.length - q.i) ⟨0, [], false, Nat.zero_le _, by rw [List.drop_zero]; rfl, Nat.zero_le _⟩ (StLe.mk [(1000, 1000), (1008, 1008), (1016, 1016), (1024, 1168), (1032, 1184)] rfl rfl ⟨⟨_, rfl, by first | rfl | (simp only [AV.ren]; congr 1; omega), rfl⟩, ⟨_, rfl, by first | rfl | (simp only [AV.ren]; congr 1; omega), rfl⟩, ⟨_, rfl, by first | rfl | (simp only [AV.ren]; congr 1; omega), rfl⟩, ⟨_, rfl, by first | rfl | (simp only [AV.ren]; congr 1; omega), rfl⟩, ⟨_, rfl, by first | rfl | (simp only [AV.ren]; congr 1; omega), rfl⟩, ⟨_, rfl, by first | rfl | (simp only [AV.ren]; congr 1; omega), rfl⟩, ⟨_, rfl, by first | rfl | (simp only [AV.ren]; congr 1; omega), rfl⟩, ⟨_, rfl, by first | rfl | (simp only [AV.ren]; congr 1; omega), rfl⟩, ⟨_, rfl, by first | rfl | (simp only [AV.ren]; congr 1; omega), rfl⟩, ⟨_, rfl, by first | rfl | (simp only [AV.ren]; congr 1; omega), rfl⟩, ⟨_, rfl, by first | rfl | (simp only [AV.ren]; congr 1; omega), rfl⟩, ⟨_, rfl, by first | rfl | (simp only [AV.ren]; congr 1; omega), rfl⟩, trivial⟩ ⟨⟨_, _, rfl, rfl, rfl, rfl, id, rfl⟩, ⟨_, _, rfl, rfl, rfl, rfl, id, rfl⟩, ⟨_, _, rfl, rfl, rfl, rfl, id, rfl⟩, ⟨_, _, rfl, rfl, rfl, rfl, id, rfl⟩, ⟨_, _, rfl, rfl, lsC_ren _ _, rfl, id, lsC_nm _ _⟩, trivial⟩) ?_
 rintro ⟨i, A, d, hi0, hv, hA⟩
 dsimp only
 refine .seq ?_
 refine .region ?_
 refine .q (op_cmpI rfl rfl rfl) trivial rfl ?_
 refine .nil ?_
 show Ev _ _ _ _ _
 refine .seq ?_
 refine .cond rfl (fun hc98 => ?_) (fun hc98 => ?_)
 ·skip
  refine .skip ?_
  show Ev _ _ _ _ _
  refine .seq ?_
  refine .block ?_
  refine .seq ?_
  refine .region ?_
  have hi2 : i < L.length := by have := of_decide_eq_true hc98; omega
  refine .q (op_indexAddr_fsl Tryd.underlying30 infLeaseR.sz (by decide) rfl rfl (i := i) rfl (hi2)) trivial rfl ?_
  refine .q (op_loadRow_fptr (v := lsV ((L.getD i default))) Tryd.underlying70 rfl infLeaseR.sz rfl rfl (ls_take (hi2)) rfl) trivial rfl ?_
  refine .a (op_allocRow zero70 rel_zero70 rfl) trivial rfl ?_
  refine .w (op_storeRow (by kernel_rfl) rfl rfl rfl rfl rfl (rfl) (rfl)) trivial rfl ?_
  refine .nil ?_
  show Ev _ _ _ _ _
  refine .seq ?_
  refine .seq ?_
  refine .region ?_
  refine .q (op_fieldAddr (m := 0) Tryd.underlying70 rfl (by kernel_rfl) rfl) trivial rfl ?_
  refine .as (.ptr 1040 0) rfl ?_
  refine .q (op_load Tryd.underlying9 rfl rfl rfl rfl (by show 0 < 5; decide)) trivial rfl ?_
  refine .q (op_move rfl) trivial rfl ?_
  refine .q (op_eqS rfl rfl rfl) trivial rfl ?_
  refine .q (op_move rfl) trivial rfl ?_
  refine .split (fun hg105 => ?_) (fun hg105 => ?_)
  ·skip
   refine .q (op_fieldAddr (m := 0) Tryd.underlying70 rfl (by kernel_rfl) rfl) ⟨_, rfl, rfl⟩ rfl ?_
   refine .as (.ptr 1040 1) rfl ?_
   refine .q (op_load Tryd.underlying9 rfl rfl rfl rfl (by show 1 < 5; decide)) ⟨_, rfl, rfl⟩ rfl ?_
   refine .q (op_move rfl) ⟨_, rfl, rfl⟩ rfl ?_
   refine .q (op_eqS rfl rfl rfl) ⟨_, rfl, rfl⟩ rfl ?_
   refine .q (op_pick_true rfl rfl rfl) trivial rfl ?_
   refine .nil ?_
   show Ev _ _ _ _ _
   refine .cond rfl (fun hc110 => ?_) (fun hc110 => ?_)
   ·skip
    refine .exit ?_
    show Ev _ _ _ _ _
    refine .region ?_
    refine .q (op_addI rfl rfl ⟨by omega, by omega⟩) trivial rfl ?_
    refine .q (op_move rfl) trivial rfl ?_
    refine .nil ?_
    exact ⟨⟨i + 1, A, d, hi2, ins_skip hv hi2 (show kEq (L.getD i default) (⟨t, al, w, ep + 1, tickV now⟩ : Ls) from ⟨by simpa using hg105, by simpa using hc110⟩), len_skip hA⟩, by show _ - (i + 1) < _ - i; omega, StLe.mk [(1000, 1000), (1008, 1008), (1016, 1016), (1024, 1024), (1032, 1032)] rfl rfl ⟨⟨_, rfl, by first | rfl | (simp only [AV.ren]; congr 1; omega), rfl⟩, ⟨_, rfl, by first | rfl | (simp only [AV.ren]; congr 1; omega), rfl⟩, ⟨_, rfl, by first | rfl | (simp only [AV.ren]; congr 1; omega), rfl⟩, ⟨_, rfl, by first | rfl | (simp only [AV.ren]; congr 1; omega), rfl⟩, ⟨_, rfl, by first | rfl | (simp only [AV.ren]; congr 1; omega), rfl⟩, ⟨_, rfl, by first | rfl | (simp only [AV.ren]; congr 1; omega), rfl⟩, ⟨_, rfl, by first | rfl | (simp only [AV.ren]; congr 1; omega), rfl⟩, ⟨_, rfl, by rfl, rfl⟩, ⟨_, rfl, by rfl, rfl⟩, ⟨_, rfl, by first | rfl | (simp only [AV.ren]; congr 1; omega), rfl⟩, ⟨_, rfl, by first | rfl | (simp only [AV.ren]; congr 1; omega), rfl⟩, ⟨_, rfl, by first | rfl | (simp only [AV.ren]; congr 1; omega), rfl⟩, trivial⟩ ⟨⟨_, _, rfl, rfl, rfl, rfl, id, rfl⟩, ⟨_, _, rfl, rfl, rfl, rfl, id, rfl⟩, ⟨_, _, rfl, rfl, rfl, rfl, id, rfl⟩, ⟨_, _, rfl, rfl, rfl, rfl, id, rfl⟩, ⟨_, _, rfl, rfl, lsC_ren _ _, rfl, id, lsC_nm _ _⟩, trivial⟩⟩
   ·skip
    refine .skip ?_
    show Ev _ _ _ _ _
    refine .seq ?_
    refine .seq ?_
    refine .region ?_
    refine .q (op_move rfl) trivial rfl ?_
    refine .q (op_notB rfl) trivial rfl ?_
    refine .q (op_move rfl) trivial rfl ?_
    refine .split (fun hg113 => ?_) (fun hg113 => ?_)
    ·skip
     refine .q (op_move rfl) ⟨_, rfl, rfl⟩ rfl ?_
     refine .q (op_fieldAddr (m := 0) Tryd.underlying70 rfl (by kernel_rfl) rfl) ⟨_, rfl, rfl⟩ rfl ?_
     refine .as (.ptr 1040 0) rfl ?_
     refine .q (op_load Tryd.underlying9 rfl rfl rfl rfl (by show 0 < 5; decide)) ⟨_, rfl, rfl⟩ rfl ?_
     refine .q (op_ltS rfl rfl) ⟨_, rfl, rfl⟩ rfl ?_
     refine .q (op_move rfl) ⟨_, rfl, rfl⟩ rfl ?_
     refine .split (fun hg118 => ?_) (fun hg118 => ?_)
     ·skip
      refine .no ⟨_, rfl, rfl⟩ rfl ?_
      refine .no ⟨_, rfl, rfl⟩ rfl ?_
      refine .no ⟨_, rfl, rfl⟩ rfl ?_
      refine .no ⟨_, rfl, rfl⟩ rfl ?_
      refine .no ⟨_, rfl, rfl⟩ rfl ?_
      refine .noU ⟨_, rfl, rfl⟩ rfl ?_
      refine .noU ⟨_, rfl, rfl⟩ rfl ?_
      refine .noU ⟨_, rfl, rfl⟩ rfl ?_
      refine .noU ⟨_, rfl, rfl⟩ rfl ?_
      refine .no ⟨_, rfl, rfl⟩ rfl ?_
      refine .q (op_pick_true rfl rfl rfl) ⟨_, rfl, rfl⟩ rfl ?_
      refine .q (op_pick_true rfl rfl rfl) trivial rfl ?_
      refine .nil ?_
      show Ev _ _ _ _ _
      refine .cond_true rfl rfl ?_
      refine .seq ?_
      refine .region ?_
      refine .q (op_move rfl) trivial rfl ?_
      refine .q (op_loadRow Tryd.underlying70 rfl (by kernel_rfl) rfl rfl rfl (rfl)) trivial rfl ?_
      refine .a (op_buildRow (z := 5) (r := lsV ((⟨t, al, w, ep + 1, tickV now⟩ : Ls))) (cs := Ls.cs ((⟨t, al, w, ep + 1, tickV now⟩ : Ls))) Tryd.underlying30 infLeaseR (by decide) (by decide) rfl rfl rfl) trivial rfl ?_
      refine .a (ap_append (c' := .agg (lsC (A ++ [(⟨t, al, w, ep + 1, tickV now⟩ : Ls)]))) Tryd.underlying30 Tryd.underlying30 (.inr ⟨_, rfl⟩) infLeaseR rfl rfl rfl rfl (by show (lsC _).length = _; rw [lsC_len]; first | done | (rw [List.length_append]; rfl)) (srcs_sl (m := 1) (o := 0) rfl rfl (by show 5 ≤ 5; decide)) (lsC_app (A) [(⟨t, al, w, ep + 1, tickV now⟩ : Ls)]) (by (try rw [List.length_append]); (try rw [List.length_singleton]); (have := hA); split at this <;> omega)) trivial rfl ?_
      refine .q (op_assign rfl) trivial rfl ?_
      refine .nil ?_
      show Ev _ _ _ _ _
      refine .region ?_
      refine .q (op_assign rfl) trivial rfl ?_
      refine .nil ?_
      show Ev _ _ _ _ _
      refine .region ?_
      refine .q (op_move rfl) trivial rfl ?_
      refine .q (op_loadRow Tryd.underlying70 rfl (by kernel_rfl) rfl rfl rfl (rfl)) trivial rfl ?_
      refine .a (op_buildRow (z := 5) (r := lsV ((L.getD i default))) (cs := Ls.cs ((L.getD i default))) Tryd.underlying30 infLeaseR (by decide) (by decide) rfl rfl rfl) trivial rfl ?_
      refine .a (ap_append (c' := .agg (lsC (A ++ [(⟨t, al, w, ep + 1, tickV now⟩ : Ls)] ++ [(L.getD i default)]))) Tryd.underlying30 Tryd.underlying30 (.inr ⟨_, rfl⟩) infLeaseR rfl rfl rfl rfl (by show (lsC _).length = _; rw [lsC_len]; first | done | (rw [List.length_append]; rfl)) (srcs_sl (m := 1) (o := 0) rfl rfl (by show 5 ≤ 5; decide)) (lsC_app (A ++ [(⟨t, al, w, ep + 1, tickV now⟩ : Ls)]) [(L.getD i default)]) (by (try rw [List.length_append]); (try rw [List.length_singleton]); (have := hA); split at this <;> omega)) trivial rfl ?_
      refine .q (op_assign rfl) trivial rfl ?_
      refine .nil ?_
      show Ev _ _ _ _ _
      refine .region ?_
      refine .q (op_addI rfl rfl ⟨by omega, by omega⟩) trivial rfl ?_
      refine .q (op_move rfl) trivial rfl ?_
      refine .nil ?_
      have hne : ¬ kEq (L.getD i default) (⟨t, al, w, ep + 1, tickV now⟩ : Ls) := fun hc => in_ne hc (by first | exact .inl hg105 | exact .inr hc110)
      have hd0 : d = false := by have h := hg113; cases d <;> first | rfl | cases h
      have hlt : kLt (⟨t, al, w, ep + 1, tickV now⟩ : Ls) (L.getD i default) := by first | exact .inl (of_decide_eq_true hg118) | exact .inr ⟨by simpa using hg123, of_decide_eq_true hc130⟩
      subst hd0
      exact ⟨⟨i + 1, ((A ++ [(⟨t, al, w, ep + 1, tickV now⟩ : Ls)]) ++ [(L.getD i default)]), true, hi2, ins_put hv hi2 hne hlt, len_put hA⟩, by show _ - (i + 1) < _ - i; omega, StLe.mk [(1000, 1000), (1008, 1008), (1016, 1016), (1024, 1024), (1032, 1072)] rfl rfl ⟨⟨_, rfl, by first | rfl | (simp only [AV.ren]; congr 1; omega), rfl⟩, ⟨_, rfl, by first | rfl | (simp only [AV.ren]; congr 1; omega), rfl⟩, ⟨_, rfl, by first | rfl | (simp only [AV.ren]; congr 1; omega), rfl⟩, ⟨_, rfl, by first | rfl | (simp only [AV.ren]; congr 1; omega), rfl⟩, ⟨_, rfl, by first | rfl | (simp only [AV.ren]; congr 1; omega), rfl⟩, ⟨_, rfl, by first | rfl | (simp only [AV.ren]; congr 1; omega), rfl⟩, ⟨_, rfl, by first | rfl | (simp only [AV.ren]; congr 1; omega), rfl⟩, ⟨_, rfl, by exact (sl_snoc2 1032 _ _ _), rfl⟩, ⟨_, rfl, by rfl, rfl⟩, ⟨_, rfl, by first | rfl | (simp only [AV.ren]; congr 1; omega), rfl⟩, ⟨_, rfl, by first | rfl | (simp only [AV.ren]; congr 1; omega), rfl⟩, ⟨_, rfl, by first | rfl | (simp only [AV.ren]; congr 1; omega), rfl⟩, trivial⟩ ⟨⟨_, _, rfl, rfl, rfl, rfl, id, rfl⟩, ⟨_, _, rfl, rfl, rfl, rfl, id, rfl⟩, ⟨_, _, rfl, rfl, rfl, rfl, id, rfl⟩, ⟨_, _, rfl, rfl, rfl, rfl, id, rfl⟩, ⟨_, _, rfl, rfl, lsC_ren _ _, rfl, id, lsC_nm _ _⟩, trivial⟩⟩
     ·skip
      refine .q (op_move rfl) ⟨_, rfl, rfl⟩ rfl ?_
      refine .q (op_fieldAddr (m := 0) Tryd.underlying70 rfl (by kernel_rfl) rfl) ⟨_, rfl, rfl⟩ rfl ?_
      refine .as (.ptr 1040 0) rfl ?_
      refine .q (op_load Tryd.underlying9 rfl rfl rfl rfl (by show 0 < 5; decide)) ⟨_, rfl, rfl⟩ rfl ?_
      refine .q (op_eqS rfl rfl rfl) ⟨_, rfl, rfl⟩ rfl ?_
      refine .q (op_move rfl) ⟨_, rfl, rfl⟩ rfl ?_
      refine .split (fun hg123 => ?_) (fun hg123 => ?_)
      ·skip
       refine .q (op_move rfl) ⟨_, rfl, rfl⟩ rfl ?_
       refine .q (op_fieldAddr (m := 0) Tryd.underlying70 rfl (by kernel_rfl) rfl) ⟨_, rfl, rfl⟩ rfl ?_
       refine .as (.ptr 1040 1) rfl ?_
       refine .q (op_load Tryd.underlying9 rfl rfl rfl rfl (by show 1 < 5; decide)) ⟨_, rfl, rfl⟩ rfl ?_
       refine .q (op_ltS rfl rfl) ⟨_, rfl, rfl⟩ rfl ?_
       refine .q (op_pick_true rfl rfl rfl) ⟨_, rfl, rfl⟩ rfl ?_
       refine .q (op_pick_false rfl rfl rfl) ⟨_, rfl, rfl⟩ rfl ?_
       refine .q (op_pick_true rfl rfl rfl) trivial rfl ?_
       refine .nil ?_
       show Ev _ _ _ _ _
       refine .cond rfl (fun hc130 => ?_) (fun hc130 => ?_)
       ·skip
        refine .seq ?_
        refine .region ?_
        refine .q (op_move rfl) trivial rfl ?_
        refine .q (op_loadRow Tryd.underlying70 rfl (by kernel_rfl) rfl rfl rfl (rfl)) trivial rfl ?_
        refine .a (op_buildRow (z := 5) (r := lsV ((⟨t, al, w, ep + 1, tickV now⟩ : Ls))) (cs := Ls.cs ((⟨t, al, w, ep + 1, tickV now⟩ : Ls))) Tryd.underlying30 infLeaseR (by decide) (by decide) rfl rfl rfl) trivial rfl ?_
        refine .a (ap_append (c' := .agg (lsC (A ++ [(⟨t, al, w, ep + 1, tickV now⟩ : Ls)]))) Tryd.underlying30 Tryd.underlying30 (.inr ⟨_, rfl⟩) infLeaseR rfl rfl rfl rfl (by show (lsC _).length = _; rw [lsC_len]; first | done | (rw [List.length_append]; rfl)) (srcs_sl (m := 1) (o := 0) rfl rfl (by show 5 ≤ 5; decide)) (lsC_app (A) [(⟨t, al, w, ep + 1, tickV now⟩ : Ls)]) (by (try rw [List.length_append]); (try rw [List.length_singleton]); (have := hA); split at this <;> omega)) trivial rfl ?_
        refine .q (op_assign rfl) trivial rfl ?_
        refine .nil ?_
        show Ev _ _ _ _ _
        refine .region ?_
        refine .q (op_assign rfl) trivial rfl ?_
        refine .nil ?_
        show Ev _ _ _ _ _
        refine .region ?_
        refine .q (op_move rfl) trivial rfl ?_
        refine .q (op_loadRow Tryd.underlying70 rfl (by kernel_rfl) rfl rfl rfl (rfl)) trivial rfl ?_
        refine .a (op_buildRow (z := 5) (r := lsV ((L.getD i default))) (cs := Ls.cs ((L.getD i default))) Tryd.underlying30 infLeaseR (by decide) (by decide) rfl rfl rfl) trivial rfl ?_
        refine .a (ap_append (c' := .agg (lsC (A ++ [(⟨t, al, w, ep + 1, tickV now⟩ : Ls)] ++ [(L.getD i default)]))) Tryd.underlying30 Tryd.underlying30 (.inr ⟨_, rfl⟩) infLeaseR rfl rfl rfl rfl (by show (lsC _).length = _; rw [lsC_len]; first | done | (rw [List.length_append]; rfl)) (srcs_sl (m := 1) (o := 0) rfl rfl (by show 5 ≤ 5; decide)) (lsC_app (A ++ [(⟨t, al, w, ep + 1, tickV now⟩ : Ls)]) [(L.getD i default)]) (by (try rw [List.length_append]); (try rw [List.length_singleton]); (have := hA); split at this <;> omega)) trivial rfl ?_
        refine .q (op_assign rfl) trivial rfl ?_
        refine .nil ?_
        show Ev _ _ _ _ _
        refine .region ?_
        refine .q (op_addI rfl rfl ⟨by omega, by omega⟩) trivial rfl ?_
        refine .q (op_move rfl) trivial rfl ?_
        refine .nil ?_
        have hne : ¬ kEq (L.getD i default) (⟨t, al, w, ep + 1, tickV now⟩ : Ls) := fun hc => in_ne hc (by first | exact .inl hg105 | exact .inr hc110)
        have hd0 : d = false := by have h := hg113; cases d <;> first | rfl | cases h
        have hlt : kLt (⟨t, al, w, ep + 1, tickV now⟩ : Ls) (L.getD i default) := by first | exact .inl (of_decide_eq_true hg118) | exact .inr ⟨by simpa using hg123, of_decide_eq_true hc130⟩
        subst hd0
        exact ⟨⟨i + 1, ((A ++ [(⟨t, al, w, ep + 1, tickV now⟩ : Ls)]) ++ [(L.getD i default)]), true, hi2, ins_put hv hi2 hne hlt, len_put hA⟩, by show _ - (i + 1) < _ - i; omega, StLe.mk [(1000, 1000), (1008, 1008), (1016, 1016), (1024, 1024), (1032, 1072)] rfl rfl ⟨⟨_, rfl, by first | rfl | (simp only [AV.ren]; congr 1; omega), rfl⟩, ⟨_, rfl, by first | rfl | (simp only [AV.ren]; congr 1; omega), rfl⟩, ⟨_, rfl, by first | rfl | (simp only [AV.ren]; congr 1; omega), rfl⟩, ⟨_, rfl, by first | rfl | (simp only [AV.ren]; congr 1; omega), rfl⟩, ⟨_, rfl, by first | rfl | (simp only [AV.ren]; congr 1; omega), rfl⟩, ⟨_, rfl, by first | rfl | (simp only [AV.ren]; congr 1; omega), rfl⟩, ⟨_, rfl, by first | rfl | (simp only [AV.ren]; congr 1; omega), rfl⟩, ⟨_, rfl, by exact (sl_snoc2 1032 _ _ _), rfl⟩, ⟨_, rfl, by rfl, rfl⟩, ⟨_, rfl, by first | rfl | (simp only [AV.ren]; congr 1; omega), rfl⟩, ⟨_, rfl, by first | rfl | (simp only [AV.ren]; congr 1; omega), rfl⟩, ⟨_, rfl, by first | rfl | (simp only [AV.ren]; congr 1; omega), rfl⟩, trivial⟩ ⟨⟨_, _, rfl, rfl, rfl, rfl, id, rfl⟩, ⟨_, _, rfl, rfl, rfl, rfl, id, rfl⟩, ⟨_, _, rfl, rfl, rfl, rfl, id, rfl⟩, ⟨_, _, rfl, rfl, rfl, rfl, id, rfl⟩, ⟨_, _, rfl, rfl, lsC_ren _ _, rfl, id, lsC_nm _ _⟩, trivial⟩⟩
       ·skip
        refine .skip ?_
        show Ev _ _ _ _ _
        refine .region ?_
        refine .q (op_move rfl) trivial rfl ?_
        refine .q (op_loadRow Tryd.underlying70 rfl (by kernel_rfl) rfl rfl rfl (rfl)) trivial rfl ?_
        refine .a (op_buildRow (z := 5) (r := lsV ((L.getD i default))) (cs := Ls.cs ((L.getD i default))) Tryd.underlying30 infLeaseR (by decide) (by decide) rfl rfl rfl) trivial rfl ?_
        refine .a (ap_append (c' := .agg (lsC (A ++ [(L.getD i default)]))) Tryd.underlying30 Tryd.underlying30 (.inr ⟨_, rfl⟩) infLeaseR rfl rfl rfl rfl (by show (lsC _).length = _; rw [lsC_len]; first | done | (rw [List.length_append]; rfl)) (srcs_sl (m := 1) (o := 0) rfl rfl (by show 5 ≤ 5; decide)) (lsC_app (A) [(L.getD i default)]) (by (try rw [List.length_append]); (try rw [List.length_singleton]); (have := hA); split at this <;> omega)) trivial rfl ?_
        refine .q (op_assign rfl) trivial rfl ?_
        refine .nil ?_
        show Ev _ _ _ _ _
        refine .region ?_
        refine .q (op_addI rfl rfl ⟨by omega, by omega⟩) trivial rfl ?_
        refine .q (op_move rfl) trivial rfl ?_
        refine .nil ?_
        have hne : ¬ kEq (L.getD i default) (⟨t, al, w, ep + 1, tickV now⟩ : Ls) := fun hc => in_ne hc (by first | exact .inl hg105 | exact .inr hc110)
        have hnl : (!d && decide (kLt (⟨t, al, w, ep + 1, tickV now⟩ : Ls) (L.getD i default))) = false := by first | (rw [hg113]; rfl) | exact in_nl (by first | exact .inl ⟨hg118, hg123⟩ | exact .inr ⟨hg118, hc130⟩)
        exact ⟨⟨i + 1, (A ++ [(L.getD i default)]), d, hi2, ins_keep hv hi2 hne hnl, len_keep hA⟩, by show _ - (i + 1) < _ - i; omega, StLe.mk [(1000, 1000), (1008, 1008), (1016, 1016), (1024, 1024), (1032, 1056)] rfl rfl ⟨⟨_, rfl, by first | rfl | (simp only [AV.ren]; congr 1; omega), rfl⟩, ⟨_, rfl, by first | rfl | (simp only [AV.ren]; congr 1; omega), rfl⟩, ⟨_, rfl, by first | rfl | (simp only [AV.ren]; congr 1; omega), rfl⟩, ⟨_, rfl, by first | rfl | (simp only [AV.ren]; congr 1; omega), rfl⟩, ⟨_, rfl, by first | rfl | (simp only [AV.ren]; congr 1; omega), rfl⟩, ⟨_, rfl, by first | rfl | (simp only [AV.ren]; congr 1; omega), rfl⟩, ⟨_, rfl, by first | rfl | (simp only [AV.ren]; congr 1; omega), rfl⟩, ⟨_, rfl, by exact (sl_snoc 1032 _ _), rfl⟩, ⟨_, rfl, by rfl, rfl⟩, ⟨_, rfl, by first | rfl | (simp only [AV.ren]; congr 1; omega), rfl⟩, ⟨_, rfl, by first | rfl | (simp only [AV.ren]; congr 1; omega), rfl⟩, ⟨_, rfl, by first | rfl | (simp only [AV.ren]; congr 1; omega), rfl⟩, trivial⟩ ⟨⟨_, _, rfl, rfl, rfl, rfl, id, rfl⟩, ⟨_, _, rfl, rfl, rfl, rfl, id, rfl⟩, ⟨_, _, rfl, rfl, rfl, rfl, id, rfl⟩, ⟨_, _, rfl, rfl, rfl, rfl, id, rfl⟩, ⟨_, _, rfl, rfl, lsC_ren _ _, rfl, id, lsC_nm _ _⟩, trivial⟩⟩
      ·skip
       refine .no ⟨_, rfl, rfl⟩ rfl ?_
       refine .no ⟨_, rfl, rfl⟩ rfl ?_
       refine .no ⟨_, rfl, rfl⟩ rfl ?_
       refine .no ⟨_, rfl, rfl⟩ rfl ?_
       refine .q (op_pick_false rfl rfl rfl) ⟨_, rfl, rfl⟩ rfl ?_
       refine .q (op_pick_false rfl rfl rfl) ⟨_, rfl, rfl⟩ rfl ?_
       refine .q (op_pick_true rfl rfl rfl) trivial rfl ?_
       refine .nil ?_
       show Ev _ _ _ _ _
       refine .cond_false rfl rfl ?_
       refine .skip ?_
       show Ev _ _ _ _ _
       refine .region ?_
       refine .q (op_move rfl) trivial rfl ?_
       refine .q (op_loadRow Tryd.underlying70 rfl (by kernel_rfl) rfl rfl rfl (rfl)) trivial rfl ?_
       refine .a (op_buildRow (z := 5) (r := lsV ((L.getD i default))) (cs := Ls.cs ((L.getD i default))) Tryd.underlying30 infLeaseR (by decide) (by decide) rfl rfl rfl) trivial rfl ?_
       refine .a (ap_append (c' := .agg (lsC (A ++ [(L.getD i default)]))) Tryd.underlying30 Tryd.underlying30 (.inr ⟨_, rfl⟩) infLeaseR rfl rfl rfl rfl (by show (lsC _).length = _; rw [lsC_len]; first | done | (rw [List.length_append]; rfl)) (srcs_sl (m := 1) (o := 0) rfl rfl (by show 5 ≤ 5; decide)) (lsC_app (A) [(L.getD i default)]) (by (try rw [List.length_append]); (try rw [List.length_singleton]); (have := hA); split at this <;> omega)) trivial rfl ?_
       refine .q (op_assign rfl) trivial rfl ?_
       refine .nil ?_
       show Ev _ _ _ _ _
       refine .region ?_
       refine .q (op_addI rfl rfl ⟨by omega, by omega⟩) trivial rfl ?_
       refine .q (op_move rfl) trivial rfl ?_
       refine .nil ?_
       have hne : ¬ kEq (L.getD i default) (⟨t, al, w, ep + 1, tickV now⟩ : Ls) := fun hc => in_ne hc (by first | exact .inl hg105 | exact .inr hc110)
       have hnl : (!d && decide (kLt (⟨t, al, w, ep + 1, tickV now⟩ : Ls) (L.getD i default))) = false := by first | (rw [hg113]; rfl) | exact in_nl (by first | exact .inl ⟨hg118, hg123⟩ | exact .inr ⟨hg118, hc130⟩)
       exact ⟨⟨i + 1, (A ++ [(L.getD i default)]), d, hi2, ins_keep hv hi2 hne hnl, len_keep hA⟩, by show _ - (i + 1) < _ - i; omega, StLe.mk [(1000, 1000), (1008, 1008), (1016, 1016), (1024, 1024), (1032, 1056)] rfl rfl ⟨⟨_, rfl, by first | rfl | (simp only [AV.ren]; congr 1; omega), rfl⟩, ⟨_, rfl, by first | rfl | (simp only [AV.ren]; congr 1; omega), rfl⟩, ⟨_, rfl, by first | rfl | (simp only [AV.ren]; congr 1; omega), rfl⟩, ⟨_, rfl, by first | rfl | (simp only [AV.ren]; congr 1; omega), rfl⟩, ⟨_, rfl, by first | rfl | (simp only [AV.ren]; congr 1; omega), rfl⟩, ⟨_, rfl, by first | rfl | (simp only [AV.ren]; congr 1; omega), rfl⟩, ⟨_, rfl, by first | rfl | (simp only [AV.ren]; congr 1; omega), rfl⟩, ⟨_, rfl, by exact (sl_snoc 1032 _ _), rfl⟩, ⟨_, rfl, by rfl, rfl⟩, ⟨_, rfl, by first | rfl | (simp only [AV.ren]; congr 1; omega), rfl⟩, ⟨_, rfl, by first | rfl | (simp only [AV.ren]; congr 1; omega), rfl⟩, ⟨_, rfl, by first | rfl | (simp only [AV.ren]; congr 1; omega), rfl⟩, trivial⟩ ⟨⟨_, _, rfl, rfl, rfl, rfl, id, rfl⟩, ⟨_, _, rfl, rfl, rfl, rfl, id, rfl⟩, ⟨_, _, rfl, rfl, rfl, rfl, id, rfl⟩, ⟨_, _, rfl, rfl, rfl, rfl, id, rfl⟩, ⟨_, _, rfl, rfl, lsC_ren _ _, rfl, id, lsC_nm _ _⟩, trivial⟩⟩
    ·skip
     refine .no ⟨_, rfl, rfl⟩ rfl ?_
     refine .no ⟨_, rfl, rfl⟩ rfl ?_
     refine .no ⟨_, rfl, rfl⟩ rfl ?_
     refine .no ⟨_, rfl, rfl⟩ rfl ?_
     refine .no ⟨_, rfl, rfl⟩ rfl ?_
     refine .noU ⟨_, rfl, rfl⟩ rfl ?_
     refine .noU ⟨_, rfl, rfl⟩ rfl ?_
     refine .noU ⟨_, rfl, rfl⟩ rfl ?_
     refine .noU ⟨_, rfl, rfl⟩ rfl ?_
     refine .noU ⟨_, rfl, rfl⟩ rfl ?_
     refine .noU ⟨_, rfl, rfl⟩ rfl ?_
     refine .noU ⟨_, rfl, rfl⟩ rfl ?_
     refine .noU ⟨_, rfl, rfl⟩ rfl ?_
     refine .noU ⟨_, rfl, rfl⟩ rfl ?_
     refine .noU ⟨_, rfl, rfl⟩ rfl ?_
     refine .no ⟨_, rfl, rfl⟩ rfl ?_
     refine .q (op_pick_false rfl rfl rfl) trivial rfl ?_
     refine .nil ?_
     show Ev _ _ _ _ _
     refine .cond_false rfl rfl ?_
     refine .skip ?_
     show Ev _ _ _ _ _
     refine .region ?_
     refine .q (op_move rfl) trivial rfl ?_
     refine .q (op_loadRow Tryd.underlying70 rfl (by kernel_rfl) rfl rfl rfl (rfl)) trivial rfl ?_
     refine .a (op_buildRow (z := 5) (r := lsV ((L.getD i default))) (cs := Ls.cs ((L.getD i default))) Tryd.underlying30 infLeaseR (by decide) (by decide) rfl rfl rfl) trivial rfl ?_
     refine .a (ap_append (c' := .agg (lsC (A ++ [(L.getD i default)]))) Tryd.underlying30 Tryd.underlying30 (.inr ⟨_, rfl⟩) infLeaseR rfl rfl rfl rfl (by show (lsC _).length = _; rw [lsC_len]; first | done | (rw [List.length_append]; rfl)) (srcs_sl (m := 1) (o := 0) rfl rfl (by show 5 ≤ 5; decide)) (lsC_app (A) [(L.getD i default)]) (by (try rw [List.length_append]); (try rw [List.length_singleton]); (have := hA); split at this <;> omega)) trivial rfl ?_
     refine .q (op_assign rfl) trivial rfl ?_
     refine .nil ?_
     show Ev _ _ _ _ _
     refine .region ?_
     refine .q (op_addI rfl rfl ⟨by omega, by omega⟩) trivial rfl ?_
     refine .q (op_move rfl) trivial rfl ?_
     refine .nil ?_
     have hne : ¬ kEq (L.getD i default) (⟨t, al, w, ep + 1, tickV now⟩ : Ls) := fun hc => in_ne hc (by first | exact .inl hg105 | exact .inr hc110)
     have hnl : (!d && decide (kLt (⟨t, al, w, ep + 1, tickV now⟩ : Ls) (L.getD i default))) = false := by first | (rw [hg113]; rfl) | exact in_nl (by first | exact .inl ⟨hg118, hg123⟩ | exact .inr ⟨hg118, hc130⟩)
     exact ⟨⟨i + 1, (A ++ [(L.getD i default)]), d, hi2, ins_keep hv hi2 hne hnl, len_keep hA⟩, by show _ - (i + 1) < _ - i; omega, StLe.mk [(1000, 1000), (1008, 1008), (1016, 1016), (1024, 1024), (1032, 1056)] rfl rfl ⟨⟨_, rfl, by first | rfl | (simp only [AV.ren]; congr 1; omega), rfl⟩, ⟨_, rfl, by first | rfl | (simp only [AV.ren]; congr 1; omega), rfl⟩, ⟨_, rfl, by first | rfl | (simp only [AV.ren]; congr 1; omega), rfl⟩, ⟨_, rfl, by first | rfl | (simp only [AV.ren]; congr 1; omega), rfl⟩, ⟨_, rfl, by first | rfl | (simp only [AV.ren]; congr 1; omega), rfl⟩, ⟨_, rfl, by first | rfl | (simp only [AV.ren]; congr 1; omega), rfl⟩, ⟨_, rfl, by first | rfl | (simp only [AV.ren]; congr 1; omega), rfl⟩, ⟨_, rfl, by exact (sl_snoc 1032 _ _), rfl⟩, ⟨_, rfl, by rfl, rfl⟩, ⟨_, rfl, by first | rfl | (simp only [AV.ren]; congr 1; omega), rfl⟩, ⟨_, rfl, by first | rfl | (simp only [AV.ren]; congr 1; omega), rfl⟩, ⟨_, rfl, by first | rfl | (simp only [AV.ren]; congr 1; omega), rfl⟩, trivial⟩ ⟨⟨_, _, rfl, rfl, rfl, rfl, id, rfl⟩, ⟨_, _, rfl, rfl, rfl, rfl, id, rfl⟩, ⟨_, _, rfl, rfl, rfl, rfl, id, rfl⟩, ⟨_, _, rfl, rfl, rfl, rfl, id, rfl⟩, ⟨_, _, rfl, rfl, lsC_ren _ _, rfl, id, lsC_nm _ _⟩, trivial⟩⟩
  ·skip
   refine .no ⟨_, rfl, rfl⟩ rfl ?_
   refine .no ⟨_, rfl, rfl⟩ rfl ?_
   refine .no ⟨_, rfl, rfl⟩ rfl ?_
   refine .no ⟨_, rfl, rfl⟩ rfl ?_
   refine .q (op_pick_false rfl rfl rfl) trivial rfl ?_
   refine .nil ?_
   show Ev _ _ _ _ _
   refine .cond_false rfl rfl ?_
   refine .skip ?_
   show Ev _ _ _ _ _
   refine .seq ?_
   refine .seq ?_
   refine .region ?_
   refine .q (op_move rfl) trivial rfl ?_
   refine .q (op_notB rfl) trivial rfl ?_
   refine .q (op_move rfl) trivial rfl ?_
   refine .split (fun hg113 => ?_) (fun hg113 => ?_)
   ·skip
    refine .q (op_move rfl) ⟨_, rfl, rfl⟩ rfl ?_
    refine .q (op_fieldAddr (m := 0) Tryd.underlying70 rfl (by kernel_rfl) rfl) ⟨_, rfl, rfl⟩ rfl ?_
    refine .as (.ptr 1040 0) rfl ?_
    refine .q (op_load Tryd.underlying9 rfl rfl rfl rfl (by show 0 < 5; decide)) ⟨_, rfl, rfl⟩ rfl ?_
    refine .q (op_ltS rfl rfl) ⟨_, rfl, rfl⟩ rfl ?_
    refine .q (op_move rfl) ⟨_, rfl, rfl⟩ rfl ?_
    refine .split (fun hg118 => ?_) (fun hg118 => ?_)
    ·skip
     refine .no ⟨_, rfl, rfl⟩ rfl ?_
     refine .no ⟨_, rfl, rfl⟩ rfl ?_
     refine .no ⟨_, rfl, rfl⟩ rfl ?_
     refine .no ⟨_, rfl, rfl⟩ rfl ?_
     refine .no ⟨_, rfl, rfl⟩ rfl ?_
     refine .noU ⟨_, rfl, rfl⟩ rfl ?_
     refine .noU ⟨_, rfl, rfl⟩ rfl ?_
     refine .noU ⟨_, rfl, rfl⟩ rfl ?_
     refine .noU ⟨_, rfl, rfl⟩ rfl ?_
     refine .no ⟨_, rfl, rfl⟩ rfl ?_
     refine .q (op_pick_true rfl rfl rfl) ⟨_, rfl, rfl⟩ rfl ?_
     refine .q (op_pick_true rfl rfl rfl) trivial rfl ?_
     refine .nil ?_
     show Ev _ _ _ _ _
     refine .cond_true rfl rfl ?_
     refine .seq ?_
     refine .region ?_
     refine .q (op_move rfl) trivial rfl ?_
     refine .q (op_loadRow Tryd.underlying70 rfl (by kernel_rfl) rfl rfl rfl (rfl)) trivial rfl ?_
     refine .a (op_buildRow (z := 5) (r := lsV ((⟨t, al, w, ep + 1, tickV now⟩ : Ls))) (cs := Ls.cs ((⟨t, al, w, ep + 1, tickV now⟩ : Ls))) Tryd.underlying30 infLeaseR (by decide) (by decide) rfl rfl rfl) trivial rfl ?_
     refine .a (ap_append (c' := .agg (lsC (A ++ [(⟨t, al, w, ep + 1, tickV now⟩ : Ls)]))) Tryd.underlying30 Tryd.underlying30 (.inr ⟨_, rfl⟩) infLeaseR rfl rfl rfl rfl (by show (lsC _).length = _; rw [lsC_len]; first | done | (rw [List.length_append]; rfl)) (srcs_sl (m := 1) (o := 0) rfl rfl (by show 5 ≤ 5; decide)) (lsC_app (A) [(⟨t, al, w, ep + 1, tickV now⟩ : Ls)]) (by (try rw [List.length_append]); (try rw [List.length_singleton]); (have := hA); split at this <;> omega)) trivial rfl ?_
     refine .q (op_assign rfl) trivial rfl ?_
     refine .nil ?_
     show Ev _ _ _ _ _
     refine .region ?_
     refine .q (op_assign rfl) trivial rfl ?_
     refine .nil ?_
     show Ev _ _ _ _ _
     refine .region ?_
     refine .q (op_move rfl) trivial rfl ?_
     refine .q (op_loadRow Tryd.underlying70 rfl (by kernel_rfl) rfl rfl rfl (rfl)) trivial rfl ?_
     refine .a (op_buildRow (z := 5) (r := lsV ((L.getD i default))) (cs := Ls.cs ((L.getD i default))) Tryd.underlying30 infLeaseR (by decide) (by decide) rfl rfl rfl) trivial rfl ?_
     refine .a (ap_append (c' := .agg (lsC (A ++ [(⟨t, al, w, ep + 1, tickV now⟩ : Ls)] ++ [(L.getD i default)]))) Tryd.underlying30 Tryd.underlying30 (.inr ⟨_, rfl⟩) infLeaseR rfl rfl rfl rfl (by show (lsC _).length = _; rw [lsC_len]; first | done | (rw [List.length_append]; rfl)) (srcs_sl (m := 1) (o := 0) rfl rfl (by show 5 ≤ 5; decide)) (lsC_app (A ++ [(⟨t, al, w, ep + 1, tickV now⟩ : Ls)]) [(L.getD i default)]) (by (try rw [List.length_append]); (try rw [List.length_singleton]); (have := hA); split at this <;> omega)) trivial rfl ?_
     refine .q (op_assign rfl) trivial rfl ?_
     refine .nil ?_
     show Ev _ _ _ _ _
     refine .region ?_
     refine .q (op_addI rfl rfl ⟨by omega, by omega⟩) trivial rfl ?_
     refine .q (op_move rfl) trivial rfl ?_
     refine .nil ?_
     have hne : ¬ kEq (L.getD i default) (⟨t, al, w, ep + 1, tickV now⟩ : Ls) := fun hc => in_ne hc (by first | exact .inl hg105 | exact .inr hc110)
     have hd0 : d = false := by have h := hg113; cases d <;> first | rfl | cases h
     have hlt : kLt (⟨t, al, w, ep + 1, tickV now⟩ : Ls) (L.getD i default) := by first | exact .inl (of_decide_eq_true hg118) | exact .inr ⟨by simpa using hg123, of_decide_eq_true hc130⟩
     subst hd0
     exact ⟨⟨i + 1, ((A ++ [(⟨t, al, w, ep + 1, tickV now⟩ : Ls)]) ++ [(L.getD i default)]), true, hi2, ins_put hv hi2 hne hlt, len_put hA⟩, by show _ - (i + 1) < _ - i; omega, StLe.mk [(1000, 1000), (1008, 1008), (1016, 1016), (1024, 1024), (1032, 1072)] rfl rfl ⟨⟨_, rfl, by first | rfl | (simp only [AV.ren]; congr 1; omega), rfl⟩, ⟨_, rfl, by first | rfl | (simp only [AV.ren]; congr 1; omega), rfl⟩, ⟨_, rfl, by first | rfl | (simp only [AV.ren]; congr 1; omega), rfl⟩, ⟨_, rfl, by first | rfl | (simp only [AV.ren]; congr 1; omega), rfl⟩, ⟨_, rfl, by first | rfl | (simp only [AV.ren]; congr 1; omega), rfl⟩, ⟨_, rfl, by first | rfl | (simp only [AV.ren]; congr 1; omega), rfl⟩, ⟨_, rfl, by first | rfl | (simp only [AV.ren]; congr 1; omega), rfl⟩, ⟨_, rfl, by exact (sl_snoc2 1032 _ _ _), rfl⟩, ⟨_, rfl, by rfl, rfl⟩, ⟨_, rfl, by first | rfl | (simp only [AV.ren]; congr 1; omega), rfl⟩, ⟨_, rfl, by first | rfl | (simp only [AV.ren]; congr 1; omega), rfl⟩, ⟨_, rfl, by first | rfl | (simp only [AV.ren]; congr 1; omega), rfl⟩, trivial⟩ ⟨⟨_, _, rfl, rfl, rfl, rfl, id, rfl⟩, ⟨_, _, rfl, rfl, rfl, rfl, id, rfl⟩, ⟨_, _, rfl, rfl, rfl, rfl, id, rfl⟩, ⟨_, _, rfl, rfl, rfl, rfl, id, rfl⟩, ⟨_, _, rfl, rfl, lsC_ren _ _, rfl, id, lsC_nm _ _⟩, trivial⟩⟩
    ·skip
     refine .q (op_move rfl) ⟨_, rfl, rfl⟩ rfl ?_
     refine .q (op_fieldAddr (m := 0) Tryd.underlying70 rfl (by kernel_rfl) rfl) ⟨_, rfl, rfl⟩ rfl ?_
     refine .as (.ptr 1040 0) rfl ?_
     refine .q (op_load Tryd.underlying9 rfl rfl rfl rfl (by show 0 < 5; decide)) ⟨_, rfl, rfl⟩ rfl ?_
     refine .q (op_eqS rfl rfl rfl) ⟨_, rfl, rfl⟩ rfl ?_
     refine .q (op_move rfl) ⟨_, rfl, rfl⟩ rfl ?_
     refine .split (fun hg123 => ?_) (fun hg123 => ?_)
     ·skip
      refine .q (op_move rfl) ⟨_, rfl, rfl⟩ rfl ?_
      refine .q (op_fieldAddr (m := 0) Tryd.underlying70 rfl (by kernel_rfl) rfl) ⟨_, rfl, rfl⟩ rfl ?_
      refine .as (.ptr 1040 1) rfl ?_
      refine .q (op_load Tryd.underlying9 rfl rfl rfl rfl (by show 1 < 5; decide)) ⟨_, rfl, rfl⟩ rfl ?_
      refine .q (op_ltS rfl rfl) ⟨_, rfl, rfl⟩ rfl ?_
      refine .q (op_pick_true rfl rfl rfl) ⟨_, rfl, rfl⟩ rfl ?_
      refine .q (op_pick_false rfl rfl rfl) ⟨_, rfl, rfl⟩ rfl ?_
      refine .q (op_pick_true rfl rfl rfl) trivial rfl ?_
      refine .nil ?_
      show Ev _ _ _ _ _
      refine .cond rfl (fun hc130 => ?_) (fun hc130 => ?_)
      ·skip
       refine .seq ?_
       refine .region ?_
       refine .q (op_move rfl) trivial rfl ?_
       refine .q (op_loadRow Tryd.underlying70 rfl (by kernel_rfl) rfl rfl rfl (rfl)) trivial rfl ?_
       refine .a (op_buildRow (z := 5) (r := lsV ((⟨t, al, w, ep + 1, tickV now⟩ : Ls))) (cs := Ls.cs ((⟨t, al, w, ep + 1, tickV now⟩ : Ls))) Tryd.underlying30 infLeaseR (by decide) (by decide) rfl rfl rfl) trivial rfl ?_
       refine .a (ap_append (c' := .agg (lsC (A ++ [(⟨t, al, w, ep + 1, tickV now⟩ : Ls)]))) Tryd.underlying30 Tryd.underlying30 (.inr ⟨_, rfl⟩) infLeaseR rfl rfl rfl rfl (by show (lsC _).length = _; rw [lsC_len]; first | done | (rw [List.length_append]; rfl)) (srcs_sl (m := 1) (o := 0) rfl rfl (by show 5 ≤ 5; decide)) (lsC_app (A) [(⟨t, al, w, ep + 1, tickV now⟩ : Ls)]) (by (try rw [List.length_append]); (try rw [List.length_singleton]); (have := hA); split at this <;> omega)) trivial rfl ?_
       refine .q (op_assign rfl) trivial rfl ?_
       refine .nil ?_
       show Ev _ _ _ _ _
       refine .region ?_
       refine .q (op_assign rfl) trivial rfl ?_
       refine .nil ?_
       show Ev _ _ _ _ _
       refine .region ?_
       refine .q (op_move rfl) trivial rfl ?_
       refine .q (op_loadRow Tryd.underlying70 rfl (by kernel_rfl) rfl rfl rfl (rfl)) trivial rfl ?_
       refine .a (op_buildRow (z := 5) (r := lsV ((L.getD i default))) (cs := Ls.cs ((L.getD i default))) Tryd.underlying30 infLeaseR (by decide) (by decide) rfl rfl rfl) trivial rfl ?_
       refine .a (ap_append (c' := .agg (lsC (A ++ [(⟨t, al, w, ep + 1, tickV now⟩ : Ls)] ++ [(L.getD i default)]))) Tryd.underlying30 Tryd.underlying30 (.inr ⟨_, rfl⟩) infLeaseR rfl rfl rfl rfl (by show (lsC _).length = _; rw [lsC_len]; first | done | (rw [List.length_append]; rfl)) (srcs_sl (m := 1) (o := 0) rfl rfl (by show 5 ≤ 5; decide)) (lsC_app (A ++ [(⟨t, al, w, ep + 1, tickV now⟩ : Ls)]) [(L.getD i default)]) (by (try rw [List.length_append]); (try rw [List.length_singleton]); (have := hA); split at this <;> omega)) trivial rfl ?_
       refine .q (op_assign rfl) trivial rfl ?_
       refine .nil ?_
       show Ev _ _ _ _ _
       refine .region ?_
       refine .q (op_addI rfl rfl ⟨by omega, by omega⟩) trivial rfl ?_
       refine .q (op_move rfl) trivial rfl ?_
       refine .nil ?_
       have hne : ¬ kEq (L.getD i default) (⟨t, al, w, ep + 1, tickV now⟩ : Ls) := fun hc => in_ne hc (by first | exact .inl hg105 | exact .inr hc110)
       have hd0 : d = false := by have h := hg113; cases d <;> first | rfl | cases h
       have hlt : kLt (⟨t, al, w, ep + 1, tickV now⟩ : Ls) (L.getD i default) := by first | exact .inl (of_decide_eq_true hg118) | exact .inr ⟨by simpa using hg123, of_decide_eq_true hc130⟩
       subst hd0
       exact ⟨⟨i + 1, ((A ++ [(⟨t, al, w, ep + 1, tickV now⟩ : Ls)]) ++ [(L.getD i default)]), true, hi2, ins_put hv hi2 hne hlt, len_put hA⟩, by show _ - (i + 1) < _ - i; omega, StLe.mk [(1000, 1000), (1008, 1008), (1016, 1016), (1024, 1024), (1032, 1072)] rfl rfl ⟨⟨_, rfl, by first | rfl | (simp only [AV.ren]; congr 1; omega), rfl⟩, ⟨_, rfl, by first | rfl | (simp only [AV.ren]; congr 1; omega), rfl⟩, ⟨_, rfl, by first | rfl | (simp only [AV.ren]; congr 1; omega), rfl⟩, ⟨_, rfl, by first | rfl | (simp only [AV.ren]; congr 1; omega), rfl⟩, ⟨_, rfl, by first | rfl | (simp only [AV.ren]; congr 1; omega), rfl⟩, ⟨_, rfl, by first | rfl | (simp only [AV.ren]; congr 1; omega), rfl⟩, ⟨_, rfl, by first | rfl | (simp only [AV.ren]; congr 1; omega), rfl⟩, ⟨_, rfl, by exact (sl_snoc2 1032 _ _ _), rfl⟩, ⟨_, rfl, by rfl, rfl⟩, ⟨_, rfl, by first | rfl | (simp only [AV.ren]; congr 1; omega), rfl⟩, ⟨_, rfl, by first | rfl | (simp only [AV.ren]; congr 1; omega), rfl⟩, ⟨_, rfl, by first | rfl | (simp only [AV.ren]; congr 1; omega), rfl⟩, trivial⟩ ⟨⟨_, _, rfl, rfl, rfl, rfl, id, rfl⟩, ⟨_, _, rfl, rfl, rfl, rfl, id, rfl⟩, ⟨_, _, rfl, rfl, rfl, rfl, id, rfl⟩, ⟨_, _, rfl, rfl, rfl, rfl, id, rfl⟩, ⟨_, _, rfl, rfl, lsC_ren _ _, rfl, id, lsC_nm _ _⟩, trivial⟩⟩
      ·skip
       refine .skip ?_
       show Ev _ _ _ _ _
       refine .region ?_
       refine .q (op_move rfl) trivial rfl ?_
       refine .q (op_loadRow Tryd.underlying70 rfl (by kernel_rfl) rfl rfl rfl (rfl)) trivial rfl ?_
       refine .a (op_buildRow (z := 5) (r := lsV ((L.getD i default))) (cs := Ls.cs ((L.getD i default))) Tryd.underlying30 infLeaseR (by decide) (by decide) rfl rfl rfl) trivial rfl ?_
       refine .a (ap_append (c' := .agg (lsC (A ++ [(L.getD i default)]))) Tryd.underlying30 Tryd.underlying30 (.inr ⟨_, rfl⟩) infLeaseR rfl rfl rfl rfl (by show (lsC _).length = _; rw [lsC_len]; first | done | (rw [List.length_append]; rfl)) (srcs_sl (m := 1) (o := 0) rfl rfl (by show 5 ≤ 5; decide)) (lsC_app (A) [(L.getD i default)]) (by (try rw [List.length_append]); (try rw [List.length_singleton]); (have := hA); split at this <;> omega)) trivial rfl ?_
       refine .q (op_assign rfl) trivial rfl ?_
       refine .nil ?_
       show Ev _ _ _ _ _
       refine .region ?_
       refine .q (op_addI rfl rfl ⟨by omega, by omega⟩) trivial rfl ?_
       refine .q (op_move rfl) trivial rfl ?_
       refine .nil ?_
       have hne : ¬ kEq (L.getD i default) (⟨t, al, w, ep + 1, tickV now⟩ : Ls) := fun hc => in_ne hc (by first | exact .inl hg105 | exact .inr hc110)
       have hnl : (!d && decide (kLt (⟨t, al, w, ep + 1, tickV now⟩ : Ls) (L.getD i default))) = false := by first | (rw [hg113]; rfl) | exact in_nl (by first | exact .inl ⟨hg118, hg123⟩ | exact .inr ⟨hg118, hc130⟩)
       exact ⟨⟨i + 1, (A ++ [(L.getD i default)]), d, hi2, ins_keep hv hi2 hne hnl, len_keep hA⟩, by show _ - (i + 1) < _ - i; omega, StLe.mk [(1000, 1000), (1008, 1008), (1016, 1016), (1024, 1024), (1032, 1056)] rfl rfl ⟨⟨_, rfl, by first | rfl | (simp only [AV.ren]; congr 1; omega), rfl⟩, ⟨_, rfl, by first | rfl | (simp only [AV.ren]; congr 1; omega), rfl⟩, ⟨_, rfl, by first | rfl | (simp only [AV.ren]; congr 1; omega), rfl⟩, ⟨_, rfl, by first | rfl | (simp only [AV.ren]; congr 1; omega), rfl⟩, ⟨_, rfl, by first | rfl | (simp only [AV.ren]; congr 1; omega), rfl⟩, ⟨_, rfl, by first | rfl | (simp only [AV.ren]; congr 1; omega), rfl⟩, ⟨_, rfl, by first | rfl | (simp only [AV.ren]; congr 1; omega), rfl⟩, ⟨_, rfl, by exact (sl_snoc 1032 _ _), rfl⟩, ⟨_, rfl, by rfl, rfl⟩, ⟨_, rfl, by first | rfl | (simp only [AV.ren]; congr 1; omega), rfl⟩, ⟨_, rfl, by first | rfl | (simp only [AV.ren]; congr 1; omega), rfl⟩, ⟨_, rfl, by first | rfl | (simp only [AV.ren]; congr 1; omega), rfl⟩, trivial⟩ ⟨⟨_, _, rfl, rfl, rfl, rfl, id, rfl⟩, ⟨_, _, rfl, rfl, rfl, rfl, id, rfl⟩, ⟨_, _, rfl, rfl, rfl, rfl, id, rfl⟩, ⟨_, _, rfl, rfl, rfl, rfl, id, rfl⟩, ⟨_, _, rfl, rfl, lsC_ren _ _, rfl, id, lsC_nm _ _⟩, trivial⟩⟩
     ·skip
      refine .no ⟨_, rfl, rfl⟩ rfl ?_
      refine .no ⟨_, rfl, rfl⟩ rfl ?_
      refine .no ⟨_, rfl, rfl⟩ rfl ?_
      refine .no ⟨_, rfl, rfl⟩ rfl ?_
      refine .q (op_pick_false rfl rfl rfl) ⟨_, rfl, rfl⟩ rfl ?_
      refine .q (op_pick_false rfl rfl rfl) ⟨_, rfl, rfl⟩ rfl ?_
      refine .q (op_pick_true rfl rfl rfl) trivial rfl ?_
      refine .nil ?_
      show Ev _ _ _ _ _
      refine .cond_false rfl rfl ?_
      refine .skip ?_
      show Ev _ _ _ _ _
      refine .region ?_
      refine .q (op_move rfl) trivial rfl ?_
      refine .q (op_loadRow Tryd.underlying70 rfl (by kernel_rfl) rfl rfl rfl (rfl)) trivial rfl ?_
      refine .a (op_buildRow (z := 5) (r := lsV ((L.getD i default))) (cs := Ls.cs ((L.getD i default))) Tryd.underlying30 infLeaseR (by decide) (by decide) rfl rfl rfl) trivial rfl ?_
      refine .a (ap_append (c' := .agg (lsC (A ++ [(L.getD i default)]))) Tryd.underlying30 Tryd.underlying30 (.inr ⟨_, rfl⟩) infLeaseR rfl rfl rfl rfl (by show (lsC _).length = _; rw [lsC_len]; first | done | (rw [List.length_append]; rfl)) (srcs_sl (m := 1) (o := 0) rfl rfl (by show 5 ≤ 5; decide)) (lsC_app (A) [(L.getD i default)]) (by (try rw [List.length_append]); (try rw [List.length_singleton]); (have := hA); split at this <;> omega)) trivial rfl ?_
      refine .q (op_assign rfl) trivial rfl ?_
      refine .nil ?_
      show Ev _ _ _ _ _
      refine .region ?_
      refine .q (op_addI rfl rfl ⟨by omega, by omega⟩) trivial rfl ?_
      refine .q (op_move rfl) trivial rfl ?_
      refine .nil ?_
      have hne : ¬ kEq (L.getD i default) (⟨t, al, w, ep + 1, tickV now⟩ : Ls) := fun hc => in_ne hc (by first | exact .inl hg105 | exact .inr hc110)
      have hnl : (!d && decide (kLt (⟨t, al, w, ep + 1, tickV now⟩ : Ls) (L.getD i default))) = false := by first | (rw [hg113]; rfl) | exact in_nl (by first | exact .inl ⟨hg118, hg123⟩ | exact .inr ⟨hg118, hc130⟩)
      exact ⟨⟨i + 1, (A ++ [(L.getD i default)]), d, hi2, ins_keep hv hi2 hne hnl, len_keep hA⟩, by show _ - (i + 1) < _ - i; omega, StLe.mk [(1000, 1000), (1008, 1008), (1016, 1016), (1024, 1024), (1032, 1056)] rfl rfl ⟨⟨_, rfl, by first | rfl | (simp only [AV.ren]; congr 1; omega), rfl⟩, ⟨_, rfl, by first | rfl | (simp only [AV.ren]; congr 1; omega), rfl⟩, ⟨_, rfl, by first | rfl | (simp only [AV.ren]; congr 1; omega), rfl⟩, ⟨_, rfl, by first | rfl | (simp only [AV.ren]; congr 1; omega), rfl⟩, ⟨_, rfl, by first | rfl | (simp only [AV.ren]; congr 1; omega), rfl⟩, ⟨_, rfl, by first | rfl | (simp only [AV.ren]; congr 1; omega), rfl⟩, ⟨_, rfl, by first | rfl | (simp only [AV.ren]; congr 1; omega), rfl⟩, ⟨_, rfl, by exact (sl_snoc 1032 _ _), rfl⟩, ⟨_, rfl, by rfl, rfl⟩, ⟨_, rfl, by first | rfl | (simp only [AV.ren]; congr 1; omega), rfl⟩, ⟨_, rfl, by first | rfl | (simp only [AV.ren]; congr 1; omega), rfl⟩, ⟨_, rfl, by first | rfl | (simp only [AV.ren]; congr 1; omega), rfl⟩, trivial⟩ ⟨⟨_, _, rfl, rfl, rfl, rfl, id, rfl⟩, ⟨_, _, rfl, rfl, rfl, rfl, id, rfl⟩, ⟨_, _, rfl, rfl, rfl, rfl, id, rfl⟩, ⟨_, _, rfl, rfl, rfl, rfl, id, rfl⟩, ⟨_, _, rfl, rfl, lsC_ren _ _, rfl, id, lsC_nm _ _⟩, trivial⟩⟩
   ·skip
    refine .no ⟨_, rfl, rfl⟩ rfl ?_
    refine .no ⟨_, rfl, rfl⟩ rfl ?_
    refine .no ⟨_, rfl, rfl⟩ rfl ?_
    refine .no ⟨_, rfl, rfl⟩ rfl ?_
    refine .no ⟨_, rfl, rfl⟩ rfl ?_
    refine .noU ⟨_, rfl, rfl⟩ rfl ?_
    refine .noU ⟨_, rfl, rfl⟩ rfl ?_
    refine .noU ⟨_, rfl, rfl⟩ rfl ?_
    refine .noU ⟨_, rfl, rfl⟩ rfl ?_
    refine .noU ⟨_, rfl, rfl⟩ rfl ?_
    refine .noU ⟨_, rfl, rfl⟩ rfl ?_
    refine .noU ⟨_, rfl, rfl⟩ rfl ?_
    refine .noU ⟨_, rfl, rfl⟩ rfl ?_
    refine .noU ⟨_, rfl, rfl⟩ rfl ?_
    refine .noU ⟨_, rfl, rfl⟩ rfl ?_
    refine .no ⟨_, rfl, rfl⟩ rfl ?_
    refine .q (op_pick_false rfl rfl rfl) trivial rfl ?_
    refine .nil ?_
    show Ev _ _ _ _ _
    refine .cond_false rfl rfl ?_
    refine .skip ?_
    show Ev _ _ _ _ _
    refine .region ?_
    refine .q (op_move rfl) trivial rfl ?_
    refine .q (op_loadRow Tryd.underlying70 rfl (by kernel_rfl) rfl rfl rfl (rfl)) trivial rfl ?_
    refine .a (op_buildRow (z := 5) (r := lsV ((L.getD i default))) (cs := Ls.cs ((L.getD i default))) Tryd.underlying30 infLeaseR (by decide) (by decide) rfl rfl rfl) trivial rfl ?_
    refine .a (ap_append (c' := .agg (lsC (A ++ [(L.getD i default)]))) Tryd.underlying30 Tryd.underlying30 (.inr ⟨_, rfl⟩) infLeaseR rfl rfl rfl rfl (by show (lsC _).length = _; rw [lsC_len]; first | done | (rw [List.length_append]; rfl)) (srcs_sl (m := 1) (o := 0) rfl rfl (by show 5 ≤ 5; decide)) (lsC_app (A) [(L.getD i default)]) (by (try rw [List.length_append]); (try rw [List.length_singleton]); (have := hA); split at this <;> omega)) trivial rfl ?_
    refine .q (op_assign rfl) trivial rfl ?_
    refine .nil ?_
    show Ev _ _ _ _ _
    refine .region ?_
    refine .q (op_addI rfl rfl ⟨by omega, by omega⟩) trivial rfl ?_
    refine .q (op_move rfl) trivial rfl ?_
    refine .nil ?_
    have hne : ¬ kEq (L.getD i default) (⟨t, al, w, ep + 1, tickV now⟩ : Ls) := fun hc => in_ne hc (by first | exact .inl hg105 | exact .inr hc110)
    have hnl : (!d && decide (kLt (⟨t, al, w, ep + 1, tickV now⟩ : Ls) (L.getD i default))) = false := by first | (rw [hg113]; rfl) | exact in_nl (by first | exact .inl ⟨hg118, hg123⟩ | exact .inr ⟨hg118, hc130⟩)
    exact ⟨⟨i + 1, (A ++ [(L.getD i default)]), d, hi2, ins_keep hv hi2 hne hnl, len_keep hA⟩, by show _ - (i + 1) < _ - i; omega, StLe.mk [(1000, 1000), (1008, 1008), (1016, 1016), (1024, 1024), (1032, 1056)] rfl rfl ⟨⟨_, rfl, by first | rfl | (simp only [AV.ren]; congr 1; omega), rfl⟩, ⟨_, rfl, by first | rfl | (simp only [AV.ren]; congr 1; omega), rfl⟩, ⟨_, rfl, by first | rfl | (simp only [AV.ren]; congr 1; omega), rfl⟩, ⟨_, rfl, by first | rfl | (simp only [AV.ren]; congr 1; omega), rfl⟩, ⟨_, rfl, by first | rfl | (simp only [AV.ren]; congr 1; omega), rfl⟩, ⟨_, rfl, by first | rfl | (simp only [AV.ren]; congr 1; omega), rfl⟩, ⟨_, rfl, by first | rfl | (simp only [AV.ren]; congr 1; omega), rfl⟩, ⟨_, rfl, by exact (sl_snoc 1032 _ _), rfl⟩, ⟨_, rfl, by rfl, rfl⟩, ⟨_, rfl, by first | rfl | (simp only [AV.ren]; congr 1; omega), rfl⟩, ⟨_, rfl, by first | rfl | (simp only [AV.ren]; congr 1; omega), rfl⟩, ⟨_, rfl, by first | rfl | (simp only [AV.ren]; congr 1; omega), rfl⟩, trivial⟩ ⟨⟨_, _, rfl, rfl, rfl, rfl, id, rfl⟩, ⟨_, _, rfl, rfl, rfl, rfl, id, rfl⟩, ⟨_, _, rfl, rfl, rfl, rfl, id, rfl⟩, ⟨_, _, rfl, rfl, rfl, rfl, id, rfl⟩, ⟨_, _, rfl, rfl, lsC_ren _ _, rfl, id, lsC_nm _ _⟩, trivial⟩⟩
 ·skip
  refine .exit ?_
  show Ev _ _ _ _ _
  refine .seq ?_
  refine .seq ?_
  refine .region ?_
  have hle : L.length ≤ i := by have := of_decide_eq_false hc98; omega
  refine .q (op_move rfl) trivial rfl ?_
  refine .q (op_notB rfl) trivial rfl ?_
  refine .nil ?_
  show Ev _ _ _ _ _
  refine .cond rfl (fun hc141 => ?_) (fun hc141 => ?_)
  ·skip
   refine .region ?_
   refine .q (op_move rfl) trivial rfl ?_
   refine .q (op_loadRow Tryd.underlying70 rfl (by kernel_rfl) rfl rfl rfl (rfl)) trivial rfl ?_
   refine .a (op_buildRow (z := 5) (r := lsV ((⟨t, al, w, ep + 1, tickV now⟩ : Ls))) (cs := Ls.cs ((⟨t, al, w, ep + 1, tickV now⟩ : Ls))) Tryd.underlying30 infLeaseR (by decide) (by decide) rfl rfl rfl) trivial rfl ?_
   refine .a (ap_append (c' := .agg (lsC (A ++ [(⟨t, al, w, ep + 1, tickV now⟩ : Ls)]))) Tryd.underlying30 Tryd.underlying30 (.inr ⟨_, rfl⟩) infLeaseR rfl rfl rfl rfl (by show (lsC _).length = _; rw [lsC_len]; first | done | (rw [List.length_append]; rfl)) (srcs_sl (m := 1) (o := 0) rfl rfl (by show 5 ≤ 5; decide)) (lsC_app (A) [(⟨t, al, w, ep + 1, tickV now⟩ : Ls)]) (by (try rw [List.length_append]); (try rw [List.length_singleton]); (have := hA); split at this <;> omega)) trivial rfl ?_
   refine .q (op_assign rfl) trivial rfl ?_
   refine .nil ?_
   show Ev _ _ _ _ _
   refine .seq ?_
   refine .region ?_
   refine .q (op_move rfl) trivial rfl ?_
   refine EvL.freezeF (t := 146) (b := 1048) (o := 0) (n := A.length + 1) (z := 5) (e := 70) (c := .agg (lsC (A ++ [(⟨t, al, w, ep + 1, tickV now⟩ : Ls)]))) (Nat.le_of_ble_eq_true rfl) rfl rfl (by show 0 + _ * 5 ≤ (lsC _).length; rw [lsC_len, List.length_append, List.length_singleton]; omega) (lsC_still _) ?_
   refine .as (.fsl (lsC (insL (⟨t, al, w, ep + 1, tickV now⟩ : Ls) false L)) (insL (⟨t, al, w, ep + 1, tickV now⟩ : Ls) false L).length 5) (by rw [fsl_whole _ (show A.length + 1 = (A ++ [(⟨t, al, w, ep + 1, tickV now⟩ : Ls)]).length by rw [List.length_append]; rfl), ins_last (A := A) (i := i) (by have h := hc141; cases d <;> first | exact hv | cases h) (by omega)]) ?_
   refine .q (op_fieldAddr (m := 0) Tryd.underlying32 rfl (by kernel_rfl) rfl) trivial rfl ?_
   refine .as (.ptr 1000 4) rfl ?_
   refine .w (op_store (by kernel_rfl) rfl rfl rfl rfl rfl (by show 4 < 5; decide)) trivial rfl ?_
   refine .nil ?_
   show Ev _ _ _ _ _
   refine .seq ?_
   refine .drawnF [[], [], [], [0], [0, 1, 3], [0, 1, 2, 3, 4], [0, 1, 2, 3, 4, 5]] [0, 1, 3, 4] [] [(0, ([1000], [])), (1, ([1024], [])), (3, ([], [1008])), (4, ([], [1016]))] (by kernel_rfl) (by kernel_rfl) rfl ?_
   show DK _ [0, 1, 2, 3, 4, 5, 6] _ _ _
   refine .q rfl (op_loadRow Tryd.underlying32 rfl (by kernel_rfl) rfl rfl rfl (rfl)) trivial ?_
   refine .q rfl (op_loadRow Tryd.underlying70 rfl (by kernel_rfl) rfl rfl rfl (rfl)) trivial ?_
   refine .q rfl (op_move rfl) trivial ?_
   refine .w rfl (op_storeRow (by kernel_rfl) rfl rfl rfl rfl rfl (rfl) (rfl)) trivial rfl rfl ?_
   refine .w rfl (op_storeRow (by kernel_rfl) rfl rfl rfl rfl rfl (rfl) (rfl)) trivial rfl rfl ?_
   refine .q rfl (op_assign rfl) trivial ?_
   refine .q rfl (op_assign rfl) trivial ?_
   refine .nil ?_
   show Ev _ _ _ _ _
   refine .ret ?_
   show RetOk _ _ _ _ _ _ _
   exact retc4 rfl (.inl rfl) ⟨_, _, _, _, rfl, rfl, rfl, rfl, rfl, Tryd.underlying32, rfl, sz32⟩ ⟨_, _, _, _, rfl, rfl, rfl, rfl, rfl, Tryd.underlying70, rfl, sz70⟩ rfl rfl trivial
  ·skip
   refine .skip ?_
   show Ev _ _ _ _ _
   refine .seq ?_
   refine .region ?_
   refine .q (op_move rfl) trivial rfl ?_
   refine EvL.freezeF (t := 146) (b := 1032) (o := 0) (n := A.length) (z := 5) (e := 70) (c := .agg (lsC (A))) (Nat.le_of_ble_eq_true rfl) rfl rfl (by show 0 + _ * 5 ≤ (lsC _).length; rw [lsC_len]; omega) (lsC_still _) ?_
   refine .as (.fsl (lsC (insL (⟨t, al, w, ep + 1, tickV now⟩ : Ls) false L)) (insL (⟨t, al, w, ep + 1, tickV now⟩ : Ls) false L).length 5) (by rw [fsl_whole _ rfl, ins_done (A := A) (i := i) (by have h := hc141; cases d <;> first | exact hv | cases h) (by omega)]) ?_
   refine .q (op_fieldAddr (m := 0) Tryd.underlying32 rfl (by kernel_rfl) rfl) trivial rfl ?_
   refine .as (.ptr 1000 4) rfl ?_
   refine .w (op_store (by kernel_rfl) rfl rfl rfl rfl rfl (by show 4 < 5; decide)) trivial rfl ?_
   refine .nil ?_
   show Ev _ _ _ _ _
   refine .seq ?_
   refine .drawnF [[], [], [], [0], [0, 1, 3], [0, 1, 2, 3, 4], [0, 1, 2, 3, 4, 5]] [0, 1, 3, 4] [] [(0, ([1000], [])), (1, ([1024], [])), (3, ([], [1008])), (4, ([], [1016]))] (by kernel_rfl) (by kernel_rfl) rfl ?_
   show DK _ [0, 1, 2, 3, 4, 5, 6] _ _ _
   refine .q rfl (op_loadRow Tryd.underlying32 rfl (by kernel_rfl) rfl rfl rfl (rfl)) trivial ?_
   refine .q rfl (op_loadRow Tryd.underlying70 rfl (by kernel_rfl) rfl rfl rfl (rfl)) trivial ?_
   refine .q rfl (op_move rfl) trivial ?_
   refine .w rfl (op_storeRow (by kernel_rfl) rfl rfl rfl rfl rfl (rfl) (rfl)) trivial rfl rfl ?_
   refine .w rfl (op_storeRow (by kernel_rfl) rfl rfl rfl rfl rfl (rfl) (rfl)) trivial rfl rfl ?_
   refine .q rfl (op_assign rfl) trivial ?_
   refine .q rfl (op_assign rfl) trivial ?_
   refine .nil ?_
   show Ev _ _ _ _ _
   refine .ret ?_
   show RetOk _ _ _ _ _ _ _
   exact retc4 rfl (.inl rfl) ⟨_, _, _, _, rfl, rfl, rfl, rfl, rfl, Tryd.underlying32, rfl, sz32⟩ ⟨_, _, _, _, rfl, rfl, rfl, rfl, rfl, Tryd.underlying70, rfl, sz70⟩ rfl rfl trivial
end Go.Proofs.YtpmambceojbkaaaDoor
