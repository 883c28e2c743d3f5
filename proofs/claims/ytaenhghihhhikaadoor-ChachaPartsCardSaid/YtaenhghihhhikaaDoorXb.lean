/-
  The block function of ChaCha20, walked.
-/
import Derived.Test.YtaenhghihhhikaaDoorXq
import Derived.Deep.MidRow
import Derived.StillTailTactics
import Derived.Deep.Cut
namespace Go.Proofs.YtaenhghihhhikaaDoor
open Go.RowKit
attribute [local go_sem] and_n32 or_n32 xor_n32 add_n32 add_n32' wrap_n32

/-- The table of the quarter rounds' indices stands as the program lays it. -/
def QAt (w : World) : Prop := ∀ i j, i < 8 → j < 4 → w.cell? ⟨0, 4 * i + j, none⟩ = some (.int .i64 (qAt i j : Int))
theorem QAt.lt {w : World} (h : QAt w) : 0 < w.heap.size := block_lt_of_cell (h 0 0 (by omega) (by omega))
theorem QAt.below {w w' : World} (h : QAt w) {B : Nat} (hb : Below B w w') (hB : 0 < B) : QAt w' := fun i j hi hj => (hb.cell (p := ⟨0, 4 * i + j, none⟩) hB).trans (h i j hi hj)
theorem QAt.cells {w : World} (h : QAt w) (i : Nat) (hi : i < 8) : w.cell? ⟨0, i * 4, none⟩ = some (.int .i64 (qAt i 0 : Int)) ∧ w.cell? ⟨0, i * 4 + 1, none⟩ = some (.int .i64 (qAt i 1 : Int)) ∧
    w.cell? ⟨0, i * 4 + 2, none⟩ = some (.int .i64 (qAt i 2 : Int)) ∧ w.cell? ⟨0, i * 4 + 3, none⟩ = some (.int .i64 (qAt i 3 : Int)) := by
  rw [Nat.mul_comm i 4]
  exact ⟨h i 0 hi (by omega), h i 1 hi (by omega), h i 2 hi (by omega), h i 3 hi (by omega)⟩
theorem new3 (w : World) (t1 t2 t3 : TypeId) (A B C : Array Value) : ∃ w0 : World, w0 = ((w.alloc (.cells A t1)).alloc (.cells B t2)).alloc (.cells C t3) ∧ Below w.heap.size w w0 ∧
    Blk w0 w.heap.size t1 A ∧ Blk w0 (w.heap.size + 1) t2 B ∧ Blk w0 (w.heap.size + 1 + 1) t3 C ∧ w0.heap.size = w.heap.size + 3 :=
  ⟨_, rfl, (((Below.refl _ _).alloc (Nat.le_refl _) _).alloc (by simp) _).alloc (by simp <;> omega) _, ((Blk.new w t1 A).alloc _).alloc _,
    ((show Blk ((w.alloc (.cells A t1)).alloc (.cells B t2)) (w.heap.size + 1) t2 B by simpa using Blk.new (w.alloc (.cells A t1)) t2 B).alloc _),
    (show Blk (((w.alloc (.cells A t1)).alloc (.cells B t2)).alloc (.cells C t3)) (w.heap.size + 1 + 1) t3 C by simpa using Blk.new ((w.alloc (.cells A t1)).alloc (.cells B t2)) t3 C), by simp⟩
theorem size22 (l : List UInt8) (h : l.length = 32) : (Tryd.prog.info? 22).map (·.size) = some ((l.map U8).toArray).size := by rw [size_map _ _ _ h]; kernel_rfl
theorem size24 (l : List UInt8) (h : l.length = 12) : (Tryd.prog.info? 24).map (·.size) = some ((l.map U8).toArray).size := by rw [size_map _ _ _ h]; kernel_rfl
theorem size26 (l : List UInt8) (h : l.length = 64) : (Tryd.prog.info? 26).map (·.size) = some ((l.map U8).toArray).size := by rw [size_map _ _ _ h]; kernel_rfl

def BRel (w : World) (gI gS : Nat) (l st : List UInt32) (wr : World) : Prop :=
  Below w.heap.size w wr ∧ QAt wr ∧ Blk wr (w.heap.size + 1 + 1) 26 #[Value.int IntKind.u8 0, Value.int IntKind.u8 0, Value.int IntKind.u8 0, Value.int IntKind.u8 0, Value.int IntKind.u8 0, Value.int IntKind.u8 0, Value.int IntKind.u8 0, Value.int IntKind.u8 0, Value.int IntKind.u8 0, Value.int IntKind.u8 0, Value.int IntKind.u8 0, Value.int IntKind.u8 0, Value.int IntKind.u8 0, Value.int IntKind.u8 0, Value.int IntKind.u8 0, Value.int IntKind.u8 0, Value.int IntKind.u8 0, Value.int IntKind.u8 0, Value.int IntKind.u8 0, Value.int IntKind.u8 0, Value.int IntKind.u8 0, Value.int IntKind.u8 0, Value.int IntKind.u8 0, Value.int IntKind.u8 0, Value.int IntKind.u8 0, Value.int IntKind.u8 0, Value.int IntKind.u8 0, Value.int IntKind.u8 0, Value.int IntKind.u8 0, Value.int IntKind.u8 0, Value.int IntKind.u8 0, Value.int IntKind.u8 0, Value.int IntKind.u8 0, Value.int IntKind.u8 0, Value.int IntKind.u8 0, Value.int IntKind.u8 0, Value.int IntKind.u8 0, Value.int IntKind.u8 0, Value.int IntKind.u8 0, Value.int IntKind.u8 0, Value.int IntKind.u8 0, Value.int IntKind.u8 0, Value.int IntKind.u8 0, Value.int IntKind.u8 0, Value.int IntKind.u8 0, Value.int IntKind.u8 0, Value.int IntKind.u8 0, Value.int IntKind.u8 0, Value.int IntKind.u8 0, Value.int IntKind.u8 0, Value.int IntKind.u8 0, Value.int IntKind.u8 0, Value.int IntKind.u8 0, Value.int IntKind.u8 0, Value.int IntKind.u8 0, Value.int IntKind.u8 0, Value.int IntKind.u8 0, Value.int IntKind.u8 0, Value.int IntKind.u8 0, Value.int IntKind.u8 0, Value.int IntKind.u8 0, Value.int IntKind.u8 0, Value.int IntKind.u8 0, Value.int IntKind.u8 0] ∧ Blk wr gI 60 (l.map U32).toArray ∧ Blk wr gS 60 (st.map U32).toArray
theorem BRel.next {w wr w' : World} {gI gS : Nat} {l st st' : List UInt32} (h : BRel w gI gS l st wr) (hg : wr.grownBy w' (some gS)) (h1 : w.heap.size + 2 < gI) (h2 : gI < gS) (hq : 0 < w.heap.size) (hs : Blk w' gS 60 (st'.map U32).toArray) : BRel w gI gS l st' w' := by
  obtain ⟨hb, hQ, hR, hI, _⟩ := h
  have hb' := below_grown hb hg hb.size (by omega)
  refine ⟨hb', fun i j hi hj => ?_, hR.gro hg (by omega), hI.gro hg (by omega), hs⟩
  exact (World.cell?_of_block (w := wr) (a := ⟨0, 4 * i + j, none⟩) (hg.block _ hQ.lt (fun e => by injection e with e; have e' : 0 = gS := e; omega))).trans (hQ i j hi hj)
theorem region_tail {P : Program} {id : Nat} {Q : Exit → Act → World → Prop} {a : Act} {w : World} {l : List Oper} (n : Nat) (hm : P.follows .mixedOrders = true) (hB : Region.lexTailB .any l.toArray n = true)
    (h : wpStill P l.toArray w.drew (fun a' => wpList P l.toArray Q (l.drop n) a' w.drew) (l.take n) a) : (Code.region id l.toArray true).wp P Q a w :=
  wp_region_still_tail n hm hB h
theorem cSums_get (l : List UInt32) (j : Nat) (h : j < l.length) : (cSums l).getD j 0 = (rnds l 10).getD j 0 + l.getD j 0 := by
  have h2 : j < (rnds l 10).length := by rw [length_rnds]; exact h
  simp only [cSums, List.getD_eq_getElem?_getD, List.getElem?_zipWith, List.getElem?_eq_getElem h, List.getElem?_eq_getElem h2, Option.getD_some]
theorem putL_row (L : List UInt8) (n : Nat) (x : UInt32) : putL (rowOf U8 0 n L) L.length x 4 = rowOf U8 0 n (L ++ wordBytes x) := by
  simp only [putL, Nat.add_zero]
  rw [push_rowOf _ _ _ _ _ _ rfl, push_rowOf _ _ _ _ _ _ (by simp), push_rowOf _ _ _ _ _ _ (by simp), push_rowOf _ _ _ _ _ _ (by simp)]
  simp [wordBytes]
def ORel (w : World) (gI gS gO : Nat) (l : List UInt32) (j : Nat) (wr : World) : Prop :=
  Below w.heap.size w wr ∧ Blk wr (w.heap.size + 1 + 1) 26 #[Value.int IntKind.u8 0, Value.int IntKind.u8 0, Value.int IntKind.u8 0, Value.int IntKind.u8 0, Value.int IntKind.u8 0, Value.int IntKind.u8 0, Value.int IntKind.u8 0, Value.int IntKind.u8 0, Value.int IntKind.u8 0, Value.int IntKind.u8 0, Value.int IntKind.u8 0, Value.int IntKind.u8 0, Value.int IntKind.u8 0, Value.int IntKind.u8 0, Value.int IntKind.u8 0, Value.int IntKind.u8 0, Value.int IntKind.u8 0, Value.int IntKind.u8 0, Value.int IntKind.u8 0, Value.int IntKind.u8 0, Value.int IntKind.u8 0, Value.int IntKind.u8 0, Value.int IntKind.u8 0, Value.int IntKind.u8 0, Value.int IntKind.u8 0, Value.int IntKind.u8 0, Value.int IntKind.u8 0, Value.int IntKind.u8 0, Value.int IntKind.u8 0, Value.int IntKind.u8 0, Value.int IntKind.u8 0, Value.int IntKind.u8 0, Value.int IntKind.u8 0, Value.int IntKind.u8 0, Value.int IntKind.u8 0, Value.int IntKind.u8 0, Value.int IntKind.u8 0, Value.int IntKind.u8 0, Value.int IntKind.u8 0, Value.int IntKind.u8 0, Value.int IntKind.u8 0, Value.int IntKind.u8 0, Value.int IntKind.u8 0, Value.int IntKind.u8 0, Value.int IntKind.u8 0, Value.int IntKind.u8 0, Value.int IntKind.u8 0, Value.int IntKind.u8 0, Value.int IntKind.u8 0, Value.int IntKind.u8 0, Value.int IntKind.u8 0, Value.int IntKind.u8 0, Value.int IntKind.u8 0, Value.int IntKind.u8 0, Value.int IntKind.u8 0, Value.int IntKind.u8 0, Value.int IntKind.u8 0, Value.int IntKind.u8 0, Value.int IntKind.u8 0, Value.int IntKind.u8 0, Value.int IntKind.u8 0, Value.int IntKind.u8 0, Value.int IntKind.u8 0, Value.int IntKind.u8 0] ∧ Blk wr gI 60 (l.map U32).toArray ∧ Blk wr gS 60 ((rnds l 10).map U32).toArray ∧ Blk wr gO 26 (rowOf U8 0 64 (outBytes ((cSums l).take j)))
theorem ORel.next {w wr w' : World} {gI gS gO : Nat} {l : List UInt32} {j : Nat} {x y : UInt32} (h : ORel w gI gS gO l j wr) (hl : l.length = 16) (hj : j < 16) (h1 : w.heap.size + 2 < gI ∧ gI < gO) (h2 : w.heap.size + 2 < gS ∧ gS < gO)
    (hs : (cSums l).getD j 0 = y + x) (hg : wr.drew.grownBy w' (some gO)) (hn : Blk w' gO 26 (putL (rowOf U8 0 64 (outBytes ((cSums l).take j))) (4 * j) (y + x) 4)) : ORel w gI gS gO l (j + 1) w' := by
  obtain ⟨hb, hR, hI, hS, _⟩ := h
  have hjl : j < (cSums l).length := by rw [length_cSums, hl]; exact hj
  refine ⟨below_grown hb.drew hg hb.size (by omega), hR.drew.gro hg (by omega), hI.drew.gro hg (by omega), hS.drew.gro hg (by omega), ?_⟩
  have e : 4 * j = (outBytes ((cSums l).take j)).length := by rw [length_outBytes, List.length_take]; omega
  rw [e, putL_row, ← hs] at hn
  rw [outBytes_succ _ _ hjl]
  rwa [List.getD_eq_getElem?_getD, List.getElem?_eq_getElem hjl] at hn
theorem blk3a (w : World) (t : TypeId) (A : Array Value) (o2 o3 : Obj) : Blk (((w.alloc (.cells A t)).alloc o2).alloc o3) w.heap.size t A := ((Blk.new w t A).alloc _).alloc _
theorem blk3b (w : World) (t : TypeId) (A : Array Value) (o1 o3 : Obj) : Blk (((w.alloc o1).alloc (.cells A t)).alloc o3) (w.heap.size + 1) t A :=
  (show Blk ((w.alloc o1).alloc (.cells A t)) (w.heap.size + 1) t A by simpa using Blk.new (w.alloc o1) t A).alloc _

set_option maxHeartbeats 500000 in
set_option maxRecDepth 100000 in
theorem cblock_any (key nonce : List UInt8) (ctr : UInt32) (w : World) (hk : key.length = 32) (hn : nonce.length = 12) (hQ : QAt w) :
    Calls Tryd.prog 13 #[.agg (key.map U8).toArray, U32 ctr, .agg (nonce.map U8).toArray] w fun e w' => e = .returned (.agg ((cBlock key ctr nonce).map U8).toArray) ∧ Below w.heap.size w w' := by
  obtain ⟨w0, hw0, hbel0, hbK, hbN, hbR, hsz⟩ := new3 w 22 24 26 (key.map U8).toArray (nonce.map U8).toArray #[Value.int IntKind.u8 0, Value.int IntKind.u8 0, Value.int IntKind.u8 0, Value.int IntKind.u8 0, Value.int IntKind.u8 0, Value.int IntKind.u8 0, Value.int IntKind.u8 0, Value.int IntKind.u8 0, Value.int IntKind.u8 0, Value.int IntKind.u8 0, Value.int IntKind.u8 0, Value.int IntKind.u8 0, Value.int IntKind.u8 0, Value.int IntKind.u8 0, Value.int IntKind.u8 0, Value.int IntKind.u8 0, Value.int IntKind.u8 0, Value.int IntKind.u8 0, Value.int IntKind.u8 0, Value.int IntKind.u8 0, Value.int IntKind.u8 0, Value.int IntKind.u8 0, Value.int IntKind.u8 0, Value.int IntKind.u8 0, Value.int IntKind.u8 0, Value.int IntKind.u8 0, Value.int IntKind.u8 0, Value.int IntKind.u8 0, Value.int IntKind.u8 0, Value.int IntKind.u8 0, Value.int IntKind.u8 0, Value.int IntKind.u8 0, Value.int IntKind.u8 0, Value.int IntKind.u8 0, Value.int IntKind.u8 0, Value.int IntKind.u8 0, Value.int IntKind.u8 0, Value.int IntKind.u8 0, Value.int IntKind.u8 0, Value.int IntKind.u8 0, Value.int IntKind.u8 0, Value.int IntKind.u8 0, Value.int IntKind.u8 0, Value.int IntKind.u8 0, Value.int IntKind.u8 0, Value.int IntKind.u8 0, Value.int IntKind.u8 0, Value.int IntKind.u8 0, Value.int IntKind.u8 0, Value.int IntKind.u8 0, Value.int IntKind.u8 0, Value.int IntKind.u8 0, Value.int IntKind.u8 0, Value.int IntKind.u8 0, Value.int IntKind.u8 0, Value.int IntKind.u8 0, Value.int IntKind.u8 0, Value.int IntKind.u8 0, Value.int IntKind.u8 0, Value.int IntKind.u8 0, Value.int IntKind.u8 0, Value.int IntKind.u8 0, Value.int IntKind.u8 0, Value.int IntKind.u8 0]
  have HW := hid hw0
  have hsz1 : w.heap.size + 3 ≤ w0.heap.size := by omega
  clear hw0 hsz hbK hbN
  have hkl := hid hk
  have hnl := hid hn
  clear hk hn
  go_enter Tryd.func13, Tryd.ntmps13
  go_wp2_with (first
    | (refine wpList_load_blk rfl 22 (.tmp 3) rfl w.heap.size rfl 22 _ _ (blk3a w _ _ _ _) Tryd.underlying22 rfl (size22 _ hkl.out) ?_)
    | (refine wpList_load_blk rfl 24 (.tmp 5) rfl (w.heap.size + 1) rfl 24 _ _ (blk3b w _ _ _ _) Tryd.underlying24 rfl (size24 _ hnl.out) ?_))
  rw [← HW.out]
  clear HW
  refine (initial_any key nonce ctr w0 hkl.out hnl.out).mono ?_
  rintro e w1 ⟨rfl, hb1⟩
  have hbel1 : Below w.heap.size w w1 := hbel0.trans (hb1.mono (by omega))
  have hbR1 := hbR.below hb1 (by omega)
  have hs1 := hb1.size
  clear hb1 hbR hbel0
  obtain ⟨l, hl0⟩ : ∃ l, l = cInit key ctr nonce := ⟨_, rfl⟩
  have hl : l.length = 16 := by rw [hl0, length_cInit]
  have hout : cBlock key ctr nonce = outBytes (cSums l) := by rw [cBlock, hl0]
  rw [← hl0]
  have HL := hid hl
  have HOUT := hid hout
  have HQ0 := hid hQ
  clear hl hl0 hout hQ
  go_wp2_with (first
    | (refine wpList_store_blk rfl 60 (.tmp 7) (.tmp 15) rfl w1.heap.size _ rfl rfl 60 _ (Blk.new w1 60 _) (sizeState _ HL.out) (by rw [size_map _ _ _ HL.out]; rfl) (oneCell_map _ (fun _ => rfl) _) ?_
       intro w2 hI hg2
       have hs2 := hg2.size
       simp only [World.size_alloc] at hs2
       have hbel2 := below_grown (hbel1.alloc (by omega) _) hg2 (by simp; omega) (by omega)
       have hR2 := (hbR1.alloc _).gro hg2 (by omega)
       clear hg2)
    | (refine wpList_load_blk rfl 60 (.tmp 7) rfl w1.heap.size rfl 60 _ _ hI Tryd.underlying60 rfl (sizeState _ HL.out) ?_)
    | (refine wpList_store_blk rfl 60 (.tmp 8) (.tmp 16) rfl w2.heap.size _ rfl rfl 60 _ (Blk.new w2 60 _) (sizeState _ HL.out) (by rw [size_map _ _ _ HL.out]; rfl) (oneCell_map _ (fun _ => rfl) _) ?_
       intro w3 hS hg3
       have hs3 := hg3.size
       simp only [World.size_alloc] at hs3
       have hbel3 := below_grown (hbel2.alloc (by omega) _) hg3 (by simp; omega) (by omega)
       have hR3 := (hR2.alloc _).gro hg3 (by omega)
       have hI3 := (hI.alloc _).gro hg3 (by omega)
       clear hg3 hR2 hI hbel2 hbR1 hbel1))
  have hQ3 : QAt w3 := HQ0.out.below hbel3 HQ0.out.lt
  have HQL := hid HQ0.out.lt
  clear HQ0
  go_loopw [17] (fun i wr => ∃ k : Nat, k ≤ 10 ∧ i = .int .i64 k ∧ BRel w w1.heap.size w2.heap.size l (rnds l k) wr) (fun i _ => 10 - (intOf i).toNat)
  case atStart => exact ⟨0, Nat.zero_le _, rfl, hbel3, hQ3, hR3, hI3, hS⟩
  case round =>
    clear hbel3 hQ3 hR3 hI3 hS
    obtain ⟨k, hk, rfl, hR⟩ := hrel
    by_cases hlt : k < 10
    · have hd : decide ((k : Int) < 10) = true := by simp; omega
      obtain ⟨wo, rfl⟩ : ∃ wo : World, wo = wr := ⟨_, rfl⟩
      go_wp2
      go_loopw [9, 19] (fun _ i wr => ∃ j : Nat, j ≤ 8 ∧ i = .int .i64 j ∧ BRel w w1.heap.size w2.heap.size l (dbl (rnds l k) j) wr) (fun _ i _ => 8 - (intOf i).toNat)
      case atStart => exact ⟨0, Nat.zero_le _, rfl, hR⟩
      case round =>
        clear hR
        obtain ⟨j, hj, rfl, hR⟩ := hrel
        by_cases hlt2 : j < 8
        · obtain ⟨q0, q1, q2, q3⟩ := hR.2.1.cells j hlt2
          have hjz : (0 : Int) ≤ j := by omega
          have hj8 : (j : Int) < 8 := by omega
          have hR' := hid hR
          clear hR
          go_wp2_with fail
          refine (qrow_any _ j _ _ hR'.out.2.2.2.2 (by rw [length_dbl, length_rnds]; exact HL.out) hlt2).mono ?_
          rintro e w' ⟨rfl, hgr, hnew⟩
          have hR2 := hR'.out.next hgr (by omega) (by omega) HQL.out hnew
          clear hR' hgr hnew q0 q1 q2 q3
          go_wp2
          go_roundw
          case rel => exact ⟨j + 1, by omega, by go_num, hR2⟩
          case measure => simp [intOf]; omega
        · rw [show j = 8 by omega] at hR
          have hd2 : decide ((j : Int) < 8) = false := by simp; omega
          go_wp2
          go_roundw
          case rel => exact ⟨k + 1, by omega, by go_num, hR⟩
          case measure => simp [intOf]; omega
    · rw [show k = 10 by omega] at hR
      have hd : decide ((k : Int) < 10) = false := by simp; omega
      obtain ⟨hbel, _, hR, hI, hS⟩ := hR
      have hlo := hS.lt
      have hz : rowOf U8 0 64 (outBytes ((cSums l).take 0)) = #[Value.int IntKind.u8 0, Value.int IntKind.u8 0, Value.int IntKind.u8 0, Value.int IntKind.u8 0, Value.int IntKind.u8 0, Value.int IntKind.u8 0, Value.int IntKind.u8 0, Value.int IntKind.u8 0, Value.int IntKind.u8 0, Value.int IntKind.u8 0, Value.int IntKind.u8 0, Value.int IntKind.u8 0, Value.int IntKind.u8 0, Value.int IntKind.u8 0, Value.int IntKind.u8 0, Value.int IntKind.u8 0, Value.int IntKind.u8 0, Value.int IntKind.u8 0, Value.int IntKind.u8 0, Value.int IntKind.u8 0, Value.int IntKind.u8 0, Value.int IntKind.u8 0, Value.int IntKind.u8 0, Value.int IntKind.u8 0, Value.int IntKind.u8 0, Value.int IntKind.u8 0, Value.int IntKind.u8 0, Value.int IntKind.u8 0, Value.int IntKind.u8 0, Value.int IntKind.u8 0, Value.int IntKind.u8 0, Value.int IntKind.u8 0, Value.int IntKind.u8 0, Value.int IntKind.u8 0, Value.int IntKind.u8 0, Value.int IntKind.u8 0, Value.int IntKind.u8 0, Value.int IntKind.u8 0, Value.int IntKind.u8 0, Value.int IntKind.u8 0, Value.int IntKind.u8 0, Value.int IntKind.u8 0, Value.int IntKind.u8 0, Value.int IntKind.u8 0, Value.int IntKind.u8 0, Value.int IntKind.u8 0, Value.int IntKind.u8 0, Value.int IntKind.u8 0, Value.int IntKind.u8 0, Value.int IntKind.u8 0, Value.int IntKind.u8 0, Value.int IntKind.u8 0, Value.int IntKind.u8 0, Value.int IntKind.u8 0, Value.int IntKind.u8 0, Value.int IntKind.u8 0, Value.int IntKind.u8 0, Value.int IntKind.u8 0, Value.int IntKind.u8 0, Value.int IntKind.u8 0, Value.int IntKind.u8 0, Value.int IntKind.u8 0, Value.int IntKind.u8 0, Value.int IntKind.u8 0] := by kernel_rfl
      have HZ := hid hz
      clear hz
      obtain ⟨wo, rfl⟩ : ∃ wo : World, wo = wr := ⟨_, rfl⟩
      go_wp2
      go_loopw [11, 28] (fun _ i wr => ∃ j : Nat, j ≤ 16 ∧ i = .int .i64 j ∧ ORel w w1.heap.size w2.heap.size wo.heap.size l j wr) (fun _ i _ => 16 - (intOf i).toNat)
      case atStart => exact ⟨0, Nat.zero_le _, rfl, hbel.alloc hbel.size _, hR.alloc _, hI.alloc _, hS.alloc _, blk_cast (Blk.new wo _ _) HZ.out.symm⟩
      case round =>
        clear hbel hR hI hS HZ
        obtain ⟨j, hj, rfl, hR⟩ := hrel
        by_cases hlt2 : j < 16
        · have ha := (hR.2.2.1.cell j).trans (map_get U32 0 l j (by rw [HL.out]; omega))
          have hb := (hR.2.2.2.1.cell j).trans (map_get U32 0 (rnds l 10) j (by rw [length_rnds, HL.out]; omega))
          have hw1 : IntKind.i64.wrap (4 * (j : Int)) = 4 * (j : Int) := IntWalk.i64_in _ (by omega)
          have hw2 : IntKind.i64.wrap (4 * (j : Int) + 4) = 4 * (j : Int) + 4 := IntWalk.i64_in _ (by omega)
          have hsl := slice_arr (P := Tryd.prog) 26 5 64 Tryd.underlying26 size8 wo.heap.size .i64 .i64 (4 * (j : Int)) (4 * (j : Int) + 4) (4 * j) (4 * j + 4) (by omega) (by omega) (by omega) (by omega) (by omega)
          rw [show 4 * j + 4 - 4 * j = 4 by omega] at hsl
          have hjz : (0 : Int) ≤ j := by omega
          have hj8 : (j : Int) < 16 := by omega
          have hsum : (cSums l).getD j 0 = (rnds l 10).getD j 0 + l.getD j 0 := cSums_get l j (by rw [HL.out]; omega)
          obtain ⟨x, hx⟩ : ∃ x, x = l.getD j 0 := ⟨_, rfl⟩
          obtain ⟨y, hy⟩ : ∃ y, y = (rnds l 10).getD j 0 := ⟨_, rfl⟩
          rw [← hx] at ha hsum
          rw [← hy] at hb hsum
          have HSUM := hid hsum
          have hR' := hid hR
          clear hR hx hy hsum
          go_wp2
          refine region_tail 13 (by kernel_rfl) (by kernel_rfl) ?_
          simp only [List.take_succ_cons, List.take_zero, List.drop_succ_cons, List.drop_zero]
          repeat still_step
          refine wpStill_nil ?_
          go_wp2_with fail
          refine (putWordC_any wo.heap.size (4 * j) 4 (64 - 4 * j) _ _ _ _ hR'.out.2.2.2.2.drew (by omega) (by rw [size_rowOf]; omega)).mono ?_
          rintro e w' ⟨rfl, hgr, hnew⟩
          have hR2 := hR'.out.next HL.out hlt2 (by omega) (by omega) HSUM.out hgr hnew
          clear hR' hgr hnew ha hb hsl hw1 hw2
          go_wp2
          go_roundw
          case rel => exact ⟨j + 1, by omega, by go_num, hR2⟩
          case measure => simp [intOf]; omega
        · rw [show j = 16 by omega] at hR
          have hd2 : decide ((j : Int) < 16) = false := by simp; omega
          obtain ⟨hbel, hR, hI, hS, hO⟩ := hR
          have ho : rowOf U8 0 64 (outBytes ((cSums l).take 16)) = ((outBytes (cSums l)).map U8).toArray := by
            rw [List.take_of_length_le (by rw [length_cSums, HL.out]; omega)]
            exact rowOf_full _ _ _ _ (by rw [length_outBytes, length_cSums, HL.out])
          rw [ho] at hO
          have hol : (outBytes (cSums l)).length = 64 := by rw [length_outBytes, length_cSums, HL.out]
          have HOL := hid hol
          clear ho hol
          go_wp2_with (first
            | (refine wpList_load_blk rfl 26 (.tmp 10) rfl wo.heap.size rfl 26 _ _ hO Tryd.underlying26 rfl (size26 _ HOL.out) ?_)
            | (refine wpList_store_blk rfl 26 (.tmp 6) (.tmp 46) rfl (w.heap.size + 1 + 1) _ rfl rfl 26 _ hR (size26 _ HOL.out) (by rw [size_map _ _ _ HOL.out]; rfl) (oneCell_map _ (fun _ => rfl) _) ?_
               intro wz hbz hgz
               have hbelz := below_grown hbel hgz hbel.size (by omega)))
          exact bodyPost_ret (results_cell_row rfl _ _ (w.heap.size + 1 + 1) 26 _ (0, 0) _ rfl hbz Tryd.underlying26 rfl (size26 _ HOL.out)) rfl ⟨by rw [HOUT.out], hbelz⟩
end Go.Proofs.YtaenhghihhhikaaDoor
