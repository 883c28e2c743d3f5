/-
  Texts of this claim.
-/
import Derived.Shelf.SlIter.Nil
import Derived.Shelf.SortM.Plain
import Derived.Shelf.SortM.SortNone
import Derived.Test.YticickigndgpcaaDoorGSE
import Derived.Test.YticickigndgpcaaDoorGSP
namespace Go.Proofs.YticickigndgpcaaDoor
open Go.Shelf Go.RowKit
def shKeys_ren : Go.Shelf.Ren := ⟨fun | 7 => 48 | 10 => 58 | n => n, fun | 23 => 87 | 26 => 9 | 3 => 91 | 28 => 97 | 0 => 0 | 27 => 96 | 33 => 24 | 4 => 4 | n => n, fun | n => n⟩
theorem shKeys : Go.Proofs.SlLaysZ.n7 Tryd.prog shKeys_ren := {
  mixed := by kernel_rfl
  f7 := ⟨Tryd.f48.name, by decide, Tryd.func48.trans (congrArg some (by kernel_rfl))⟩
  f10 := ⟨Tryd.f58.name, by decide, Tryd.func58.trans (congrArg some (by kernel_rfl))⟩
  t0 := Tryd.underlying0
  a0 := Tryd.isAgg0
  z0 := Tryd.sizeOf0
  v0 := Tryd.zeroValue0
  t4 := Tryd.underlying4
  a4 := Tryd.isAgg4
  z4 := Tryd.sizeOf4
  v4 := Tryd.zeroValue4
  t23 := Tryd.underlying87
  a23 := Tryd.isAgg87
  z23 := Tryd.sizeOf87
  v23 := Tryd.zeroValue87
  t26 := Tryd.underlying9
  a26 := Tryd.isAgg9
  z26 := Tryd.sizeOf9
  v26 := Tryd.zeroValue9
  t27 := Tryd.underlying96
  a27 := Tryd.isAgg96
  z27 := Tryd.sizeOf96
  v27 := Tryd.zeroValue96
  t28 := Tryd.underlying97
  a28 := Tryd.isAgg97
  z28 := Tryd.sizeOf97
  v28 := Tryd.zeroValue97
  t33 := Tryd.underlying24
  a33 := Tryd.isAgg24
  z33 := Tryd.sizeOf24
  v33 := Tryd.zeroValue24 }
def shSorted_ren : Go.Shelf.Ren := ⟨fun | 6 => 47 | 8 => 56 | 9 => 57 | 11 => 62 | 13 => 60 | 12 => 63 | 23 => 72 | 24 => 73 | 14 => 74 | 15 => 75 | 16 => 76 | 17 => 77 | 18 => 78 | 19 => 79 | 20 => 80 | 21 => 81 | 22 => 82 | 25 => 88 | 26 => 84 | 27 => 85 | 28 => 89 | 29 => 90 | 30 => 61 | 31 => 92 | n => n, fun | 26 => 9 | 28 => 97 | 24 => 63 | 0 => 0 | 3 => 3 | 37 => 110 | 48 => 134 | 50 => 136 | 4 => 4 | 40 => 127 | 39 => 126 | 45 => 131 | 5 => 5 | 9 => 9 | 51 => 143 | 55 => 147 | 57 => 151 | 58 => 152 | 33 => 24 | n => n, fun | n => n⟩
theorem shSorted : Go.Proofs.SlLaysZ.n6 Tryd.prog shSorted_ren := {
  mixed := by kernel_rfl
  f6 := ⟨Tryd.f47.name, by decide, Tryd.func47.trans (congrArg some (by kernel_rfl))⟩
  f8 := ⟨Tryd.f56.name, by decide, Tryd.func56.trans (congrArg some (by kernel_rfl))⟩
  f11 := ⟨Tryd.f62.name, by decide, Tryd.func62.trans (congrArg some (by kernel_rfl))⟩
  t0 := Tryd.underlying0
  a0 := Tryd.isAgg0
  z0 := Tryd.sizeOf0
  v0 := Tryd.zeroValue0
  t24 := Tryd.underlying63
  a24 := Tryd.isAgg63
  z24 := Tryd.sizeOf63
  v24 := Tryd.zeroValue63
  t26 := Tryd.underlying9
  a26 := Tryd.isAgg9
  z26 := Tryd.sizeOf9
  v26 := Tryd.zeroValue9
  t28 := Tryd.underlying97
  a28 := Tryd.isAgg97
  z28 := Tryd.sizeOf97
  v28 := Tryd.zeroValue97
  i26 := by kernel_rfl }
def shSort_ren : Go.Shelf.Ren := ⟨fun | 6 => 57 | 8 => 60 | 9 => 63 | 19 => 72 | 20 => 73 | 21 => 74 | 22 => 75 | 23 => 76 | 24 => 77 | 25 => 78 | 26 => 79 | 27 => 80 | 28 => 81 | 29 => 82 | 36 => 88 | 31 => 84 | 32 => 85 | 37 => 89 | 38 => 90 | 39 => 61 | 41 => 92 | n => n, fun | 27 => 63 | 29 => 9 | 3 => 3 | 32 => 110 | 26 => 63 | 0 => 0 | 44 => 134 | 46 => 136 | 4 => 4 | 36 => 127 | 35 => 126 | 41 => 131 | 5 => 5 | 9 => 9 | 53 => 143 | 57 => 147 | 63 => 151 | 64 => 152 | n => n, fun | n => n⟩
theorem shSort : Go.Proofs.SlLaysM.n6 Tryd.prog shSort_ren := {
  mixed := by kernel_rfl
  f6 := ⟨Tryd.f57.name, by decide, Tryd.func57.trans (congrArg some (by kernel_rfl))⟩
  f8 := Tryd.func60.trans (congrArg some (by kernel_rfl))
  f9 := ⟨Tryd.f63.name, by decide, Tryd.func63.trans (congrArg some (by kernel_rfl))⟩
  f19 := Tryd.func72.trans (congrArg some (by kernel_rfl))
  f20 := Tryd.func73.trans (congrArg some (by kernel_rfl))
  f21 := ⟨Tryd.f74.name, by decide, Tryd.func74.trans (congrArg some (by kernel_rfl))⟩
  f22 := ⟨Tryd.f75.name, by decide, Tryd.func75.trans (congrArg some (by kernel_rfl))⟩
  f23 := ⟨Tryd.f76.name, by decide, Tryd.func76.trans (congrArg some (by kernel_rfl))⟩
  f24 := ⟨Tryd.f77.name, by decide, Tryd.func77.trans (congrArg some (by kernel_rfl))⟩
  f25 := ⟨Tryd.f78.name, by decide, Tryd.func78.trans (congrArg some (by kernel_rfl))⟩
  f26 := ⟨Tryd.f79.name, by decide, Tryd.func79.trans (congrArg some (by kernel_rfl))⟩
  f27 := ⟨Tryd.f80.name, by decide, Tryd.func80.trans (congrArg some (by kernel_rfl))⟩
  f28 := ⟨Tryd.f81.name, by decide, Tryd.func81.trans (congrArg some (by kernel_rfl))⟩
  f29 := ⟨Tryd.f82.name, by decide, Tryd.func82.trans (congrArg some (by kernel_rfl))⟩
  f31 := Tryd.func84.trans (congrArg some (by kernel_rfl))
  f32 := Tryd.func85.trans (congrArg some (by kernel_rfl))
  f36 := ⟨Tryd.f88.name, by decide, Tryd.func88.trans (congrArg some (by kernel_rfl))⟩
  f37 := ⟨Tryd.f89.name, by decide, Tryd.func89.trans (congrArg some (by kernel_rfl))⟩
  f38 := ⟨Tryd.f90.name, by decide, Tryd.func90.trans (congrArg some (by kernel_rfl))⟩
  f39 := ⟨Tryd.f61.name, by decide, Tryd.func61.trans (congrArg some (by kernel_rfl))⟩
  f41 := ⟨Tryd.f92.name, by decide, Tryd.func92.trans (congrArg some (by kernel_rfl))⟩
  t0 := Tryd.underlying0
  a0 := Tryd.isAgg0
  z0 := Tryd.sizeOf0
  v0 := Tryd.zeroValue0
  t3 := Tryd.underlying3
  a3 := Tryd.isAgg3
  z3 := Tryd.sizeOf3
  v3 := Tryd.zeroValue3
  t4 := Tryd.underlying4
  a4 := Tryd.isAgg4
  z4 := Tryd.sizeOf4
  v4 := Tryd.zeroValue4
  t5 := Tryd.underlying5
  a5 := Tryd.isAgg5
  z5 := Tryd.sizeOf5
  v5 := Tryd.zeroValue5
  t9 := Tryd.underlying9
  a9 := Tryd.isAgg9
  z9 := Tryd.sizeOf9
  v9 := Tryd.zeroValue9
  t26 := Tryd.underlying63
  a26 := Tryd.isAgg63
  z26 := Tryd.sizeOf63
  v26 := Tryd.zeroValue63
  t27 := Tryd.underlying63
  a27 := Tryd.isAgg63
  z27 := Tryd.sizeOf63
  v27 := Tryd.zeroValue63
  t29 := Tryd.underlying9
  a29 := Tryd.isAgg9
  z29 := Tryd.sizeOf9
  v29 := Tryd.zeroValue9
  t32 := Tryd.underlying110
  a32 := Tryd.isAgg110
  z32 := Tryd.sizeOf110
  v32 := Tryd.zeroValue110
  t35 := Tryd.underlying126
  a35 := Tryd.isAgg126
  z35 := Tryd.sizeOf126
  v35 := Tryd.zeroValue126
  t36 := Tryd.underlying127
  a36 := Tryd.isAgg127
  z36 := Tryd.sizeOf127
  v36 := Tryd.zeroValue127
  t41 := Tryd.underlying131
  a41 := Tryd.isAgg131
  z41 := Tryd.sizeOf131
  v41 := Tryd.zeroValue131
  t44 := Tryd.underlying134
  a44 := Tryd.isAgg134
  z44 := Tryd.sizeOf134
  v44 := Tryd.zeroValue134
  t46 := Tryd.underlying136
  a46 := Tryd.isAgg136
  z46 := Tryd.sizeOf136
  v46 := Tryd.zeroValue136
  t53 := Tryd.underlying143
  a53 := Tryd.isAgg143
  z53 := Tryd.sizeOf143
  v53 := Tryd.zeroValue143
  t57 := Tryd.underlying147
  a57 := Tryd.isAgg147
  z57 := Tryd.sizeOf147
  v57 := Tryd.zeroValue147
  t63 := Tryd.underlying151
  a63 := Tryd.isAgg151
  z63 := Tryd.sizeOf151
  v63 := Tryd.zeroValue151
  t64 := Tryd.underlying152
  a64 := Tryd.isAgg152
  z64 := Tryd.sizeOf152
  v64 := Tryd.zeroValue152 }
end Go.Proofs.YticickigndgpcaaDoor
namespace Go.Proofs.YticickigndgpcaaDoor
open Go.RowKit
open Go.Maps Go.Sort Go.Shelf
/-- A new block that lies where it lies, under a new name. -/
theorem RH.fresh {E : Emb} {S : Nat → Prop} {H : Hp} {w w' : World} (h : RH E S H w) {b l0 s : Nat} (hw : ∀ l, l < w.heap.size → w'.heap[l]? = w.heap[l]?) (hl0 : w.heap.size ≤ l0) (hS : S l0) (hb : E b = none) (k : ABlk)
    (hk0 : KAt (E.put b (l0, s)) k w' l0 s) : RH (E.put b (l0, s)) S (upd [(b, some k)] H) w' := by
  have hle := Emb.put_le (E := E) (b := b) (p := (l0, s)) hb
  have lt : ∀ n k' l s, H n = some k' → E n = some (l, s) → l < w.heap.size := fun n k' l s hk he => by
    obtain ⟨l', s', h1, h2⟩ := h.blk n k' hk
    rw [he] at h1; injection h1 with h1; injection h1 with h1 _; rw [h1]; exact h2.lt
  refine ⟨fun n k' hk => ?_, fun n n' k1 k2 l s1 s' h1 h2 h3 h4 h5 => ?_, fun n k' l s1 h1 h2 h3 => ?_, fun a L s1 ha => ?_⟩
  rotate_right 1
  · have hd := h.deep a L s1 ha
    refine ⟨hd.1.mono (hw a hd.1.lt), fun n k' s' hk ho' he => ?_⟩
    rw [upd_one] at hk
    split at hk
    · rename_i e; subst e
      rw [Emb.put_same] at he; injection he with he; injection he with he _
      have := hd.1.lt
      omega
    · rename_i e
      rw [Emb.put_other _ _ e] at he
      exact hd.2 n k' s' hk ho' he
  · rw [upd_one] at hk
    split at hk
    · rename_i e; subst e; injection hk with hk; subst hk
      exact ⟨l0, s, Emb.put_same _ _ _, hk0⟩
    · obtain ⟨l, s, h1, h2⟩ := h.blk n k' hk
      exact ⟨l, s, hle.1 _ _ h1, h2.mono hle (hw l h2.lt)⟩
  · rw [upd_one] at h1 h2
    by_cases e1 : n = b
    · by_cases e2 : n' = b
      · rw [e1, e2]
      · rw [if_neg e2] at h2
        rw [Emb.put_other _ _ e2] at h5
        subst e1
        rw [Emb.put_same] at h4; injection h4 with h4; injection h4 with h4 _
        have := lt n' k2 _ _ h2 h5
        omega
    · rw [if_neg e1] at h1
      rw [Emb.put_other _ _ e1] at h4
      by_cases e2 : n' = b
      · subst e2
        rw [Emb.put_same] at h5; injection h5 with h5; injection h5 with h5 _
        have := lt n k1 _ _ h1 h4
        omega
      · rw [if_neg e2] at h2
        rw [Emb.put_other _ _ e2] at h5
        exact h.inj n n' k1 k2 l s1 s' h1 h2 h3 h4 h5
  · rw [upd_one] at h1
    by_cases e1 : n = b
    · subst e1
      rw [Emb.put_same] at h3; injection h3 with h3; injection h3 with h3 _
      rw [← h3]; exact hS
    · rw [if_neg e1] at h1
      rw [Emb.put_other _ _ e1] at h3
      exact h.own n k' l s1 h1 h2 h3
theorem keyOf_encStr {P : Program} {k : TypeId} (hk : P.underlying k = some .string) (s : List UInt8) (hs : s.length ≤ maxLen) : keyOf P k (encStr s) = some (.string s) := by
  have h : (⟨s.toArray⟩ : ByteArray).size ≤ maxLen := by show s.toArray.size ≤ maxLen; simpa using hs
  simp [keyOf, hk, mapKey, encStr, h]
/-- A named map of strings, as the library's contracts know one. -/
theorem MAt.owns {E : Emb} {ss : List (List UInt8)} {vs : List AV} {bs : List Nat} {clk : Nat} {w : World} {l : Nat} {P : Program} {k : TypeId} (h : MAt E (ss.map encStr) vs bs clk w l) (hk : P.underlying k = some .string) (hn : ss.Nodup) (hb : ∀ b ∈ bs, b < clk) (hbn : bs.Nodup)
    (hl : ss.length ≤ maxLen) (hs : ∀ s ∈ ss, s.length ≤ maxLen) : ∃ D0 : DataW Unit, w.ownsMap P k (fun _ => some (.nil, [])) l ss.length D0 ∧ (strKeys D0).Perm ss ∧ Maps.size D0 = ss.length := by
  obtain ⟨es, h1, h2, h3, h4, h5⟩ := h
  rw [List.length_map] at h2 h3 h4
  have ek : es.toList.map (·.key) = ss.map encStr := by
    refine List.ext_getElem? fun i => ?_
    rw [List.getElem?_map, Array.getElem?_toList]
    cases he : es[i]? with
    | none => rw [Array.getElem?_eq_none_iff] at he; rw [List.getElem?_eq_none (by rw [List.length_map]; omega)]; rfl
    | some e => rw [(h5 i e he).2.1]; rfl
  have eb : es.toList.map (·.born) = bs := by
    refine List.ext_getElem? fun i => ?_
    rw [List.getElem?_map, Array.getElem?_toList]
    cases he : es[i]? with
    | none => rw [Array.getElem?_eq_none_iff] at he; rw [List.getElem?_eq_none (by omega)]; rfl
    | some e => rw [(h5 i e he).1]; rfl
  have rdk : ∀ x ∈ es.toList, ∃ s ∈ ss, x.key = encStr s := fun x hx => by
    have : x.key ∈ es.toList.map (·.key) := List.mem_map_of_mem hx
    rw [ek] at this
    obtain ⟨s, hs1, hs2⟩ := List.mem_map.1 this
    exact ⟨s, hs1, hs2.symm⟩
  have hrd : ∀ x ∈ es.toList, ∀ s, x.key = encStr s → s ∈ ss → Go.WideElems.rd P k (fun _ => some ((.nil : DataW Unit), [])) x = some (.string s, .nil) := fun x hx s e he => by
    unfold Go.WideElems.rd
    rw [e, keyOf_encStr hk s (hs s he)]
    rfl
  have hinj : ∀ a b : List UInt8, encStr a = encStr b → a = b := fun a b e => encStr_inj e
  refine ⟨_, ⟨es, clk, h1, ⟨by rw [h2]; exact hl, ⟨fun x hx => hb _ (by rw [← eb]; exact List.mem_map_of_mem hx), by rw [eb]; exact hbn, ?_⟩, fun x hx => ?_⟩, by omega, rfl⟩, ?_, ?_⟩
  · rw [ek]
    exact List.Pairwise.map _ (fun a b hab e => hab (hinj a b e)) hn
  · obtain ⟨s, s1, s2⟩ := rdk x hx
    exact ⟨_, hrd x hx s s2 s1⟩
  · have e1 : (es.toList.map (Go.WideElems.rg P k (fun _ => some ((.nil : DataW Unit), [])))).map (fun p => strOf p.1) = ss := by
      have e2 : ((es.toList.map (Go.WideElems.rg P k (fun _ => some ((.nil : DataW Unit), [])))).map (fun p => strOf p.1)).map encStr = ss.map encStr := by
        rw [← ek, List.map_map, List.map_map]
        refine List.map_congr_left fun x hx => ?_
        obtain ⟨s, s1, s2⟩ := rdk x hx
        show encStr (strOf (Go.WideElems.rg P k _ x).1) = x.key
        rw [Go.WideElems.rg_of (hrd x hx s s2 s1), s2]; rfl
      exact List.map_inj_right (f := encStr) (fun a b e => hinj a b e) |>.1 e2
    show ((_ : List (Lit × DataW Unit)).map fun p => strOf p.1).Perm ss
    rw [← e1]
    exact (Go.WideShapes.sorted_perm _).map _
  · show List.length _ = _
    rw [(Go.WideShapes.sorted_perm _).length_eq, List.length_map, Array.length_toList, h2]
theorem sorts_in (m : Nat) : AnyZ.SortsIn Tryd.prog shSorted_ren Fence.wide m :=
  ⟨fun blk off cap ss W hH hblk hsz => callsIn_wide.2 (AnyM.slices_Sort_string shSort blk off cap ss W hH hblk hsz),
   fun p cap W => callsIn_wide.2 (AnyM.slices_Sort_string_none shSort p cap W)⟩
set_option maxHeartbeats 1000000 in
/-- slices.Sorted of the keys of a map of strings that has some. -/
theorem sorted_ev {ss : List (List UInt8)} {vs : List AV} {bs : List Nat} {clk : Nat} {ow ow2 : Bool} (h0 : ss ≠ []) (hn : ss.Nodup) (hb : ∀ b ∈ bs, b < clk) (hbn : bs.Nodup) (hl : ss.length ≤ 1000000) (hs : ∀ s ∈ ss, s.length ≤ maxLen) :
    Meets Tryd.prog 47 [.clo 58 [.ptr 500 0]] [(500, some ⟨.agg [.mp 501], 87, ow⟩), (501, some ⟨.mapc (ss.map encStr) vs bs clk, 0, ow2⟩)] (.sl 1000 0 ss.length 1)
      [(1000, some ⟨.aggS (ss.mergeSort leB), 9, true⟩), (500, some ⟨.agg [.mp 501], 87, ow⟩), (501, some ⟨.mapc (ss.map encStr) vs bs clk, 0, ow2⟩)] := by
  intro E S n0 vals w hg htop hlen hr hR hS hn0
  obtain ⟨vl⟩ := vals
  match vl, hlen, hr with
  | [x], _, hr =>
  have hx := hr 0 _ x rfl rfl
  obtain ⟨⟨dl⟩, rfl, e2, e3⟩ := hx.clo_inv
  match dl, e2, e3 with
  | [y], _, e3 =>
  have hy := e3 0 _ y rfl rfl
  obtain ⟨l, s, hE, rfl⟩ := hy.ptr_inv
  have hk : hget [(500, some (⟨.agg [.mp 501], 87, ow⟩ : ABlk)), (501, some ⟨.mapc (ss.map encStr) vs bs clk, 0, ow2⟩)] 500 = some ⟨.agg [.mp 501], 87, ow⟩ := rfl
  have hk2 : hget [(500, some (⟨.agg [.mp 501], 87, ow⟩ : ABlk)), (501, some ⟨.mapc (ss.map encStr) vs bs clk, 0, ow2⟩)] 501 = some ⟨.mapc (ss.map encStr) vs bs clk, 0, ow2⟩ := rfl
  obtain ⟨l', s', hE', arr, tq, fz, g1, g2, g3, g4, g5⟩ := hR.blkR hk rfl
  rw [hE] at hE'; injection hE' with hE'; injection hE' with q1 q2; subst q1; subst q2
  obtain ⟨_, z, hz, hz2⟩ := g5 0 _ rfl
  obtain ⟨lm, hEm, rfl⟩ := hz2.mp_inv
  obtain ⟨lm', sm', hEm', hKm⟩ := hR.blk 501 _ hk2
  rw [hEm] at hEm'; injection hEm' with hEm'; injection hEm' with q1 q2; subst q1; subst q2
  obtain ⟨_, hM⟩ := hKm.isMap (show (AV.mapc (ss.map encStr) vs bs clk).ents = _ from rfl)
  obtain ⟨D0, hown, hperm, hsize⟩ := hM.owns Tryd.underlying9 hn hb hbn (by unfold maxLen; omega) hs
  have hll : l < w.heap.size := lt_of_heap g1
  have hcell : w.cell? ⟨l, 0, none⟩ = some (.map (some lm)) := by
    show (match w.heap[l]? with | some (.cells c _ _) => if (none : Option Nat).isSome then none else c[0]? | _ => none) = _
    rw [g1]; exact hz
  have hseq : SeqGives Fence.wide 2 Tryd.prog 58 #[.pointer (some ⟨l, 0, none⟩)] encStr (fun ss => ss.Perm (strKeys D0)) (Maps.size D0) w :=
    AnyZ.keys_gives (ρ := shKeys_ren) { shKeys with } Fence.wide _ trivial rfl (by omega) l lm ss.length D0 w hll hcell hown
  have hcall := callsIn_wide.1 (AnyZ.sorted_in shSorted Fence.wide 5 trivial trivial trivial trivial rfl (by omega) (sorts_in _) (enters_of Tryd.func57 (by kernel_rfl) rfl) 58 #[.pointer (some ⟨l, 0, none⟩)] trivial (enters_of Tryd.func58 (by kernel_rfl) rfl) _ _ (by rw [hsize]; unfold maxLen; omega) (by rw [hsize]; omega) w hseq)
  refine hcall.mono fun e w' hh => ?_
  obtain ⟨v, s2, he, hp2, hrow, hnil, hbel⟩ := hh
  have hp3 : s2.Perm ss := hp2.trans hperm
  have hlen2 : s2.length = ss.length := hp3.length_eq
  have hms : s2.mergeSort leB = ss.mergeSort leB := mergeSort_of_perm hp3
  have hne : s2 ≠ [] := fun e1 => h0 (List.eq_nil_of_length_eq_zero (by rw [← hlen2, e1]; rfl))
  rcases hrow.2 with ⟨e1, _⟩ | ⟨g, cap, cur, e1, hbase, hgb, r1, r2, r3, r4⟩
  · exact absurd (hnil.1 e1) hne
  · subst e1
    refine ⟨_, E.put 1000 (g, cur.size), he, ⟨fun b hb => Emb.put_other _ _ (by omega), fun _ => .inl rfl⟩, ?_, ?_, ⟨hbel.os, hbel.tape, hbel.output, hbel.size, fun k hk _ => hbel.block k hk, trivial⟩⟩
    · rw [← hlen2]
      exact .sl 1000 0 _ 1 g cur.size cap (Emb.put_same _ _ _) r1 r2 (by omega)
    · have hRf := hR.fresh (b := 1000) (l0 := g) (s := cur.size) (fun l hl => hbel.block l hl) hbase (hS g (by omega)) (htop 1000 (Nat.le_refl _)) ⟨.aggS (ss.mergeSort leB), 9, true⟩ (.row rfl ⟨cur, _, (0, 0), hgb, rfl, ⟨FzOk.zero _ _, .inr (.inl ⟨rfl, .inl rfl⟩)⟩, ?_, fun i x hx => ?_⟩)
      · rw [upd_hget] at hRf; exact hRf
      · show ((ss.mergeSort leB).map AV.str).length ≤ _
        rw [List.length_map, List.length_mergeSort]; omega
      · have hx : ((ss.mergeSort leB).map AV.str)[i]? = some x := hx
        rw [List.getElem?_map] at hx
        cases hq : (ss.mergeSort leB)[i]? with
        | none => rw [hq] at hx; cases hx
        | some q =>
          rw [hq] at hx; injection hx with hx; subst hx
          refine ⟨rfl, encStr q, ?_, .str q⟩
          have h9 : (cur.toList.take (s2.length * 1))[i]? = some (encStr q) := by
            rw [r4]
            show ((s2.mergeSort leB).map encStr)[i]? = _
            rw [hms, List.getElem?_map, hq]; rfl
          rw [List.getElem?_take] at h9
          split at h9
          · rw [← Array.getElem?_toList]; exact h9
          · cases h9
end Go.Proofs.YticickigndgpcaaDoor
