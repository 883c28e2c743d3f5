/-
  Texts of this claim.
-/
import Derived.Laws.IdiomStrings
import Derived.Laws.Slices
import Derived.Laws.OwnMore
import Derived.OwnWalk
import Derived.Deep.RegionLaw
import Derived.BigRegion
import Derived.Deep.RegionHeld3
import Derived.Deep.RegionWith
import Derived.StillTailTactics
import Derived.Lib.AppendZeros
import Derived.Deep.QuietTactic
import Derived.BigQuiet
import Derived.Laws.BytesArg
import Derived.Test.YtdmlpblaelfdmaaGreatDoorGXMS
import Derived.Test.YtdmlpblaelfdmaaGreatDoorGXS
import Derived.Test.YtdmlpblaelfdmaaGreatDoorGZ1S
namespace Go.Proofs.YtdmlpblaelfdmaaGreatDoor
open Go.RowKit

section
variable {P : Program}
theorem wpList_convert_run (w : World) {ops : Array Oper} {rest : List Oper} {o : Oper} {a : Act} {Q : Exit → Act → World → Prop} (hgd : o.guard = none) (s d : TypeId) (x : Operand)
    (ho : o.op = .convert s d x) (vx : Value) (hx : a.eval x = vx)
    (v' : Value) (w' : World) (hr : (convert s d vx).run P w = .ok v' w') (h : wpList P ops Q rest (a.put o.dst v') w') : wpList P ops Q (o :: rest) a w := by
  refine wpList_plain hgd fun K hK => ?_
  unfold Oper.wp execOp
  simp only [ho, hx, Sem.run_bind, Sem.run_pure, Result.andThen_ok, hr]
  exact hK _ _ h
theorem cells_of_bytes {w : World} {b o : Nat} {bs : List UInt8} (h : Bytes w b o bs) : ∀ j (hj : j < bs.length), w.cell? ((⟨b, o, none⟩ : Addr).add j) = some (.int .u8 (bs[j].toNat : Int)) := by
  intro j hj
  have e : (⟨b, o, none⟩ : Addr).add j = ⟨b, o + j, none⟩ := by unfold Addr.add; split <;> simp_all
  rw [e]; exact h j hj
/-- string(b), b's cells being bs. -/
theorem wpList_string_of (w : World) {ops : Array Oper} {rest : List Oper} {o : Oper} {a : Act} {Q : Exit → Act → World → Prop} (hgd : o.guard = none) (s d e : TypeId) (x : Operand)
    (ho : o.op = .convert s d x) (hs : P.underlying s = some (.slice e)) (he : P.underlying e = some (.int .u8)) (hd : P.underlying d = some .string)
    (b off n c : Nat) (bs : List UInt8) (hx : a.eval x = .slice (some ⟨b, off, none⟩) n c) (hn : bs.length = n) (hb : Bytes w b off bs)
    (h : wpList P ops Q rest (a.put o.dst (.string ⟨bs.toArray⟩)) w) : wpList P ops Q (o :: rest) a w := by
  subst hn
  exact wpList_convert_run w hgd s d x ho _ hx _ _ (run_convert_bytes_back w s d e _ c bs hs he hd (cells_of_bytes hb)) h
end
end Go.Proofs.YtdmlpblaelfdmaaGreatDoor
namespace Go.Proofs.YtdmlpblaelfdmaaGreatDoor
end Go.Proofs.YtdmlpblaelfdmaaGreatDoor
namespace Go.Proofs.YtdmlpblaelfdmaaGreatDoor
open Go.RowKit
theorem alloc_cell (w : World) (cs : Array Value) (t : TypeId) (fz : Nat × Nat) (j : Nat) : (w.alloc (.cells cs t fz)).cell? ⟨w.heap.size, j, none⟩ = cs[j]? :=
  cell_of_row _ _ j cs t fz (heap_alloc_new w _)
theorem alloc_frozen (w : World) (cs : Array Value) (t : TypeId) (a b : Nat) (j : Nat) (h : j < a) : (w.alloc (.cells cs t (a, b))).frozen? ⟨w.heap.size, j, none⟩ = false := by
  have e := heap_alloc_new w (.cells cs t (a, b))
  have q : (w.alloc (.cells cs t (a, b))).heap[(⟨w.heap.size, j, none⟩ : Addr).block]? = some (.cells cs t (a, b)) := e
  unfold World.frozen?
  rw [q]
  simp; omega
theorem bytes_alloc {P : Program} (w : World) (src dst e : TypeId) (s : ByteArray) (hs : P.underlying src = some .string) (hd : P.underlying dst = some (.slice e)) (he : P.underlying e = some (.int .u8)) :
    ∃ (cap : Nat) (W : World), (convert src dst (.string s)).run P w = .ok (.slice (some ⟨w.heap.size, 0, none⟩) s.size cap) W ∧ Bytes W w.heap.size 0 s.data.toList ∧
      (∀ j, j < s.size → W.frozen? ⟨w.heap.size, j, none⟩ = false) ∧ Below w.heap.size w W ∧ w.heap.size < W.heap.size ∧ s.size ≤ cap := by
  have hlen : ∀ cap, (bytesRow s cap).size = s.size + (cap - s.size) := fun cap => by simp [bytesRow]
  refine ⟨_, _, run_bytes_of_string w src dst e s hs hd he, ?_, ?_, ?_, ?_, grownCap_ge _ _ _ _⟩
  · intro j hj
    have hj' : j < s.size := hj
    rw [Nat.zero_add]
    have h := alloc_cell w.drew (bytesRow s (grownCap w s.size 0 e)) e ((bytesRow s (grownCap w s.size 0 e)).size, (bytesRow s (grownCap w s.size 0 e)).size + 1) j
    refine h.trans ?_
    have hjd : j < s.data.size := hj'
    simp only [bytesRow, Array.getElem?_append, Array.size_map]
    rw [if_pos hjd]
    rw [Array.getElem?_map, Array.getElem?_eq_getElem hjd]
    rfl
  · intro j hj
    exact alloc_frozen w.drew _ e _ _ j (by rw [hlen]; omega)
  · exact ((Below.refl _ _).drew).alloc (by simp) _
  · simp
theorem bytes_set {w : World} {g : Nat} {l : List UInt8} (h : Bytes w g 0 l) (i : Nat) (hi : i < l.length) (v : UInt8) : Bytes (w.setCell ⟨g, i, none⟩ (U8 v)) g 0 (l.set i v) := by
  intro j hj
  have hj' : j < l.length := by simpa using hj
  have hc := h j hj'
  have hci := h i hi
  rw [Nat.zero_add] at hc hci ⊢
  by_cases e : i = j
  · subst e
    rw [World.cell?_setCell_same _ _ _ hci]
    simp
  · rw [World.cell?_setCell_other _ _ _ _ (fun h => e (by injection h)), hc]
    simp [e]
/-- The bytes L lie at the head of block g and may be written. -/
def RBytes (w : World) (g : Nat) (L : List UInt8) : Prop := Bytes w g 0 L ∧ (∀ j, j < L.length → w.frozen? ⟨g, j, none⟩ = false) ∧ g < w.heap.size
theorem RBytes.below {w w' : World} {g : Nat} {L : List UInt8} (h : RBytes w g L) {B : Nat} (hb : Below B w w') (hg : g < B) (hB : B ≤ w.heap.size) : RBytes w' g L :=
  ⟨h.1.below hb hg, fun j hj => (hb.frozen (p := ⟨g, j, none⟩) hg).trans (h.2.1 j hj), Nat.lt_of_lt_of_le (Nat.lt_of_lt_of_le hg hB) hb.size⟩
theorem RBytes.drew {w : World} {g : Nat} {L : List UInt8} (h : RBytes w g L) : RBytes w.drew g L := h
theorem RBytes.grown {w w' : World} {g : Nat} {r : Option Nat} {L : List UInt8} (h : RBytes w g L) (hg : w.grownBy w' r) (hr : some g ≠ r) : RBytes w' g L := by
  have hb := hg.block g h.2.2 hr
  refine ⟨fun j hj => (World.cell?_of_block (a := ⟨g, 0 + j, none⟩) hb).trans (h.1 j hj), fun j hj => ?_, Nat.lt_of_lt_of_le h.2.2 hg.size⟩
  have := h.2.1 j hj
  unfold World.frozen? at this ⊢
  rw [show w'.heap[(⟨g, j, none⟩ : Addr).block]? = w.heap[(⟨g, j, none⟩ : Addr).block]? from hb]
  exact this
theorem RBytes.alloc {w : World} {g : Nat} {L : List UInt8} (h : RBytes w g L) (o : Obj) : RBytes (w.alloc o) g L := h.grown (r := none) (World.grownBy_alloc w o none) (by simp)
theorem RBytes.set_ {w : World} {g : Nat} {L : List UInt8} (h : RBytes w g L) (i : Nat) (hi : i < L.length) (v : UInt8) : RBytes (w.setCell ⟨g, i, none⟩ (U8 v)) g (L.set i v) :=
  ⟨bytes_set h.1 i hi v, fun j hj => by rw [World.frozen?_setCell]; exact h.2.1 j (by simpa using hj), by simpa [World.setCell] using h.2.2⟩
theorem RBytes.cell {w : World} {g : Nat} {L : List UInt8} (h : RBytes w g L) (i : Nat) (hi : i < L.length) : w.cell? ⟨g, i, none⟩ = some (U8 (L.getD i 0)) := by
  have := h.1 i hi
  rw [Nat.zero_add] at this
  rw [this, List.getD_eq_getElem?_getD, List.getElem?_eq_getElem hi]; rfl
/-- x[l:h] of a slice whose elements are of one cell each. -/
theorem slice_sl {P : Program} (t e : Nat) (hu : P.underlying t = some (.slice e)) (hs : (P.info? e).map (·.size) = some 1) (b o n c : Nat) (kl kh : IntKind) (L H : Int) (l h : Nat) (hL : L = l) (hH : H = h) (h1 : l ≤ h) (h2 : h ≤ c) (h3 : l < c) (w : World) :
    (Instr.slice t (.slice (some ⟨b, o, none⟩) n c) (some (.int kl L)) (some (.int kh H)) none).run P w = .ok (.slice (some ⟨b, o + l, none⟩) (h - l) (c - l)) w := by
  subst hL hH
  have he : P.elem t = e := by simp [Program.elem, hu]
  have hs' : (sizeOf e).run P w = .ok 1 w := by
    cases hq : P.info? e with
    | none => simp [hq] at hs
    | some i => simp [hq] at hs; simp [sizeOf, typeInfo, hq, hs]
  have hadd : ∀ j, (⟨b, o, none⟩ : Addr).add j = ⟨b, o + j, none⟩ := fun j => by unfold Addr.add; split <;> simp_all
  rw [run_slice_lh w t _ n c (by rw [he]; exact hu) kl kh l h (by omega) (by omega) (by omega), he, hs']
  simp only [Result.andThen_ok, sliced, Int.toNat_natCast, Nat.mul_one]
  rw [if_neg (by omega)]
  simp [hadd]
end Go.Proofs.YtdmlpblaelfdmaaGreatDoor
namespace Go.Proofs.YtdmlpblaelfdmaaGreatDoor
open Go.RowKit
section
variable {P : Program}
end
end Go.Proofs.YtdmlpblaelfdmaaGreatDoor
namespace Go.Proofs.YtdmlpblaelfdmaaGreatDoor
open Go.RowKit
attribute [local go_sem] xor_n8 add_n32 add_n32' wrap_n32

/-- The bytes of s, the first m of them with the key stream. -/
def cPart (key : List UInt8) (ctr : UInt32) (nonce s : List UInt8) (m : Nat) : List UInt8 := s.mapIdx fun i b => if i < m then b ^^^ (cBlock key (ctr + UInt32.ofNat (i / 64)) nonce).getD (i % 64) 0 else b
theorem length_cPart (key : List UInt8) (ctr : UInt32) (nonce s : List UInt8) (m : Nat) : (cPart key ctr nonce s m).length = s.length := by simp [cPart]
theorem cPart_zero (key : List UInt8) (ctr : UInt32) (nonce s : List UInt8) : cPart key ctr nonce s 0 = s := by
  apply List.ext_getElem?; intro i; simp [cPart]
theorem cPart_all (key : List UInt8) (ctr : UInt32) (nonce s : List UInt8) (m : Nat) (h : s.length ≤ m) : cPart key ctr nonce s m = cXor key ctr nonce s := by
  apply List.ext_getElem?
  intro i
  by_cases hi : i < s.length
  · rw [get_cXor _ _ _ _ i hi]; simp [cPart, hi, show i < m by omega]
  · rw [List.getElem?_eq_none (by rw [length_cPart]; omega), List.getElem?_eq_none (by rw [length_cXor]; omega)]
theorem cPart_getD (key : List UInt8) (ctr : UInt32) (nonce s : List UInt8) (m : Nat) (h : m < s.length) : (cPart key ctr nonce s m).getD m 0 = s.getD m 0 := by
  simp [cPart, List.getD_eq_getElem?_getD, h]
theorem cPart_succ (key : List UInt8) (ctr : UInt32) (nonce s : List UInt8) (m : Nat) (h : m < s.length) :
    (cPart key ctr nonce s m).set m (s.getD m 0 ^^^ (cBlock key (ctr + UInt32.ofNat (m / 64)) nonce).getD (m % 64) 0) = cPart key ctr nonce s (m + 1) := by
  apply List.ext_getElem?
  intro i
  rw [List.getElem?_set, length_cPart]
  by_cases hi : i < s.length
  · by_cases e : m = i
    · subst e
      simp [cPart, h, List.getD_eq_getElem?_getD]
    · rw [if_neg e]
      simp only [cPart, List.getElem?_mapIdx, List.getElem?_eq_getElem hi, Option.map_some]
      by_cases h2 : i < m
      · rw [if_pos h2, if_pos (by omega)]
      · rw [if_neg h2, if_neg (by omega)]
  · rw [if_neg (by omega)]
    rw [List.getElem?_eq_none (by rw [length_cPart]; omega), List.getElem?_eq_none (by rw [length_cPart]; omega)]

def XRel (w : World) (g : Nat) (key nonce s : List UInt8) (ctr : UInt32) (m : Nat) (wr : World) : Prop :=
  Below w.heap.size w wr ∧ QAt wr ∧ Blk wr w.heap.size 24 (key.map U8).toArray ∧ Blk wr (w.heap.size + 1) 88 (nonce.map U8).toArray ∧ RBytes wr g (cPart key ctr nonce s m)
def XIn (w : World) (g gB : Nat) (key nonce s : List UInt8) (ctr : UInt32) (B : List UInt8) (m : Nat) (wr : World) : Prop := XRel w g key nonce s ctr m wr ∧ Blk wr gB 169 (B.map U8).toArray
theorem XIn.next {w wr : World} {g gB k j : Nat} {key nonce s : List UInt8} {ctr : UInt32} {B : List UInt8} (h : XIn w g gB key nonce s ctr B (64 * k + j) wr) (hm : 64 * k + j < s.length) (hg : w.heap.size + 2 ≤ g ∧ g < gB) (hB : B = cBlock key (ctr + UInt32.ofNat k) nonce) (hj : j < 64) (hq : 22 < g) :
    XIn w g gB key nonce s ctr B (64 * k + (j + 1)) (wr.setCell ⟨g, 64 * k + j, none⟩ (U8 (s.getD (64 * k + j) 0 ^^^ B.getD j 0))).drew := by
  obtain ⟨⟨h0, hQ, h1, h2, h3⟩, h4⟩ := h
  refine ⟨⟨(h0.setCell (by show _ ≤ g; omega) _).drew, fun i j hi hj => ?_, (h1.far (by show _ ≠ g; omega) _).drew, (h2.far (by show _ ≠ g; omega) _).drew, ?_⟩, (h4.far (by show _ ≠ g; omega) _).drew⟩
  · exact (World.cell?_setCell_other _ _ _ _ (fun e => by injection e with e; have e' : g = 22 := e; omega)).trans (hQ i j hi hj)
  · have := h3.set_ (64 * k + j) (by rw [length_cPart]; exact hm) (s.getD (64 * k + j) 0 ^^^ B.getD j 0)
    rw [hB] at this ⊢
    have e := cPart_succ key ctr nonce s (64 * k + j) hm
    rw [show (64 * k + j) / 64 = k by omega, show (64 * k + j) % 64 = j by omega] at e
    rw [e] at this
    exact this
set_option maxHeartbeats 1000000 in
set_option maxRecDepth 100000 in
theorem cxor_any (key nonce : List UInt8) (ctr : UInt32) (s : ByteArray) (w : World) (hk : key.length = 32) (hn : nonce.length = 12) (hs : s.size ≤ 1000000) (hQ : QAt w) :
    Calls Tryz.prog 66 #[.agg (key.map U8).toArray, U32 ctr, .agg (nonce.map U8).toArray, .string s] w fun e w' => e = .returned (.string ⟨(cXor key ctr nonce s.data.toList).toArray⟩) ∧ Below w.heap.size w w' := by
  obtain ⟨w0, hw0, hbel0, hbK, hbN, hsz⟩ : ∃ w0 : World, w0 = (w.alloc (.cells (key.map U8).toArray 24)).alloc (.cells (nonce.map U8).toArray 88) ∧ Below w.heap.size w w0 ∧ Blk w0 w.heap.size 24 (key.map U8).toArray ∧ Blk w0 (w.heap.size + 1) 88 (nonce.map U8).toArray ∧ w0.heap.size = w.heap.size + 2 :=
    ⟨_, rfl, ((Below.refl _ _).alloc (Nat.le_refl _) _).alloc (by simp) _, (Blk.new w _ _).alloc _, by simpa using Blk.new (w.alloc (.cells (key.map U8).toArray 24)) 88 (nonce.map U8).toArray, by simp⟩
  have hsz1 : w.heap.size + 2 ≤ w0.heap.size := by omega
  clear hsz
  obtain ⟨cap, W, hrun, hby, hfz, hbW, hltW, hcap⟩ := bytes_alloc (P := Tryz.prog) w0 9 33 5 s Tryz.underlying9 Tryz.underlying33 Tryz.underlying5
  have HR := hid (show (convert 9 33 (.string s)).run Tryz.prog ((w.alloc (.cells (key.map U8).toArray 24)).alloc (.cells (nonce.map U8).toArray 88)) = .ok (.slice (some ⟨w0.heap.size, 0, none⟩) s.size cap) W by rw [← hw0]; exact hrun)
  have hR0 : XRel w w0.heap.size key nonce s.data.toList ctr 0 W := by
    have hbel : Below w.heap.size w W := hbel0.trans (hbW.mono (by omega))
    exact ⟨hbel, hQ.below hbel hQ.lt, hbK.below hbW (by omega), hbN.below hbW (by omega), by rw [cPart_zero]; exact ⟨hby, hfz, hltW⟩⟩
  have hkl := hid hk
  have hnl := hid hn
  clear hk hn hw0 hrun hby hfz hbW hbK hbN hbel0
  have hsl : s.data.toList.length = s.size := rfl
  have HSL := hid hsl
  have HQ := hid hQ
  clear hsl hQ
  go_enter Tryz.func66, Tryz.ntmps66
  go_wp2_with (refine wpList_convert_run _ rfl 9 33 (.tmp 14) rfl _ rfl _ _ HR.out ?_)
  clear HR
  go_loopw [1, 10] (fun c i wr => ∃ k : Nat, 64 * k < s.size + 64 ∧ i = .int .i64 (64 * (k : Int)) ∧ c = U32 (ctr + UInt32.ofNat k) ∧ XRel w w0.heap.size key nonce s.data.toList ctr (64 * k) wr) (fun _ i _ => s.size + 64 - (intOf i).toNat)
  case atStart => exact ⟨0, by omega, rfl, by simp, hR0⟩
  case round =>
    clear hR0
    obtain ⟨k, hk, rfl, rfl, hR⟩ := hrel
    by_cases hlt : 64 * k < s.size
    · obtain ⟨n, hn, hn64, hnle, hor⟩ : ∃ n : Nat, (if (s.size : Int) < 64 * (k : Int) + 64 then (s.size : Int) else 64 * (k : Int) + 64) = 64 * (k : Int) + (n : Int) ∧ n ≤ 64 ∧ 64 * k + n ≤ s.size ∧ (n = 64 ∨ 64 * k + n = s.size) := ⟨min 64 (s.size - 64 * k), by split <;> omega, by omega, by omega, by omega⟩
      have hbl : 64 * (k : Int) + (n : Int) ≤ s.size := by omega
      have hsl := slice_sl (P := Tryz.prog) 33 5 Tryz.underlying33 size8 w0.heap.size 0 s.size cap .i64 .i64 (64 * (k : Int)) (64 * (k : Int) + (n : Int)) (64 * k) (64 * k + n) (by omega) (by omega) (by omega) (by omega) (by omega)
      rw [show 64 * k + n - 64 * k = n by omega, Nat.zero_add] at hsl
      have hd : decide (64 * (k : Int) < (s.size : Int)) = true := by simp; omega
      obtain ⟨hbel, hQ, hbK, hbN, hRB⟩ := hR
      go_wp2_with (first
        | (refine wpList_load_blk rfl 24 (.tmp 4) rfl w.heap.size rfl 24 _ _ hbK Tryz.underlying24 rfl (size22 _ hkl.out) ?_)
        | (refine wpList_load_blk rfl 88 (.tmp 6) rfl (w.heap.size + 1) rfl 88 _ _ hbN Tryz.underlying88 rfl (size24 _ hnl.out) ?_))
      refine (cblock_any key nonce (ctr + UInt32.ofNat k) wr hkl.out hnl.out hQ).mono ?_
      rintro e w1 ⟨rfl, hb1⟩
      have hbel1 := hbel.trans (hb1.mono hbel.size)
      have hQ1 := hQ.below hb1 hQ.lt
      have hbK1 := hbK.below hb1 hbK.lt
      have hbN1 := hbN.below hb1 hbN.lt
      have hRB1 := hRB.below hb1 hRB.2.2 (Nat.le_refl _)
      have hgl := hRB1.2.2
      have hkl1 := hbK1.lt
      have hnl1 := hbN1.lt
      have hQ2 : Hid (∀ w2, w1.grownBy w2 (some w1.heap.size) → QAt w2) := hid fun w2 hg i j hi hj => (World.cell?_of_block (w := w1) (a := ⟨22, 4 * i + j, none⟩) (hg.block _ hQ1.lt (fun e => by injection e with e; have := hQ1.lt; have e' : 22 = w1.heap.size := e; omega))).trans (hQ1 i j hi hj)
      clear hb1 hbel hQ hbK hbN hRB
      obtain ⟨B, hB⟩ : ∃ B, B = cBlock key (ctr + UInt32.ofNat k) nonce := ⟨_, rfl⟩
      have hBl : B.length = 64 := by rw [hB, length_cBlock]
      rw [← hB]
      have HB := hid hB
      have HBL := hid hBl
      clear hB hBl
      go_wp2_with (refine wpList_store_blk rfl 169 (.tmp 11) (.tmp 25) rfl w1.heap.size _ rfl rfl 169 _ (Blk.new w1 169 _) (size26 _ HBL.out) (by rw [size_map _ _ _ HBL.out]; rfl) (oneCell_map _ (fun _ => rfl) _) ?_
                   intro w2 hBB hg2
                   have hs2 := hg2.size
                   simp only [World.size_alloc] at hs2
                   have hbel2 := below_grown (hbel1.alloc hbel1.size _) hg2 (by simp; omega) hbel1.size
                   have hbK2 := (hbK1.alloc _).gro hg2 (by omega)
                   have hbN2 := (hbN1.alloc _).gro hg2 (by omega)
                   have hRB2 := (hRB1.alloc _).grown hg2 (fun e => by injection e with e; omega)
                   have hQ3 := hQ2.out w2 (grown_trans (World.grownBy_alloc w1 _ _) hg2)
                   have hblt : w0.heap.size < w1.heap.size := hgl
                   clear hg2)
      clear hsl hn
      have hB0 : XIn w w0.heap.size w1.heap.size key nonce s.data.toList ctr B (64 * k + 0) w2 := ⟨⟨hbel2, hQ3, hbK2, hbN2, hRB2⟩, hBB⟩
      clear hbel2 hQ2 hQ3 hbK2 hbN2 hRB2 hBB hQ1 hgl hkl1 hnl1
      obtain ⟨wo, rfl⟩ : ∃ wo : World, wo = w2 := ⟨_, rfl⟩
      go_loopw [13, 38] (fun _ i wr => ∃ j : Nat, j ≤ n ∧ i = .int .i64 j ∧ XIn w w0.heap.size w1.heap.size key nonce s.data.toList ctr B (64 * k + j) wr) (fun _ i _ => n - (intOf i).toNat)
      case atStart => exact ⟨0, Nat.zero_le _, rfl, hB0⟩
      case round =>
        clear hB0
        obtain ⟨j, hj, rfl, hR⟩ := hrel
        by_cases hlt2 : j < n
        · have hd2 : decide ((j : Int) < (n : Int)) = true := by simp; omega
          have hc1 := hR.1.2.2.2.2.cell (64 * k + j) (by rw [length_cPart, HSL.out]; omega)
          rw [cPart_getD _ _ _ _ _ (by rw [HSL.out]; omega)] at hc1
          have hf1 := hR.1.2.2.2.2.2.1 (64 * k + j) (by rw [length_cPart, HSL.out]; omega)
          have hc2 := (hR.2.cell j).trans (map_get U8 0 B j (by rw [HBL.out]; omega))
          have hnx := hR.next (by rw [HSL.out]; omega) ⟨by omega, hblt⟩ HB.out (by omega) (by have := HQ.out.lt; omega)
          obtain ⟨x, hx⟩ : ∃ x, x = s.data.toList.getD (64 * k + j) 0 := ⟨_, rfl⟩
          obtain ⟨y, hy⟩ : ∃ y, y = B.getD j 0 := ⟨_, rfl⟩
          rw [← hx] at hc1 hnx
          rw [← hy] at hc2 hnx
          have HNX := hid hnx
          have hjz : (0 : Int) ≤ j := by omega
          have hj8 : (j : Int) < 64 := by omega
          have hjn : (j : Int) < n := by omega
          clear hx hy hR hnx
          go_wp2
          go_region
          go_wp2
          go_roundw
          case rel => exact ⟨j + 1, by omega, by go_num, HNX.out⟩
          case measure => simp [intOf]; omega
        · rw [show j = n by omega] at hR
          have hd2 : decide ((j : Int) < (n : Int)) = false := by simp; omega
          have hL : cPart key ctr nonce s.data.toList (64 * k + n) = cPart key ctr nonce s.data.toList (64 * (k + 1)) := by
            rcases hor with h | h
            · rw [h]; rfl
            · rw [cPart_all _ _ _ _ _ (by rw [HSL.out]; omega), cPart_all _ _ _ _ _ (by rw [HSL.out]; omega)]
          have hR2 := hR.1
          unfold XRel at hR2
          rw [hL] at hR2
          have hcn : ctr + UInt32.ofNat k + 1 = ctr + UInt32.ofNat (k + 1) := by rw [UInt32.ofNat_add, UInt32.add_assoc]; rfl
          have HCN := hid hcn
          clear hR hL hcn
          go_wp2
          go_roundw
          case rel => exact ⟨k + 1, by omega, by go_num, by rw [← HCN.out]; rfl, hR2⟩
          case measure => simp [intOf]; omega
    · have hd : decide (64 * (k : Int) < (s.size : Int)) = false := by simp; omega
      obtain ⟨hbel, _, _, _, hRB⟩ := hR
      rw [cPart_all _ _ _ _ _ (by rw [HSL.out]; omega)] at hRB
      have hLn : (cXor key ctr nonce s.data.toList).length = s.size := by rw [length_cXor, HSL.out]
      have HLN := hid hLn
      clear hLn
      go_wp2_with (refine wpList_string_of _ rfl 33 9 5 (.tmp 51) rfl Tryz.underlying33 Tryz.underlying5 Tryz.underlying9 w0.heap.size 0 s.size cap (cXor key ctr nonce s.data.toList) rfl HLN.out hRB.1 ?_)
      go_ret
      exact ⟨rfl, hbel⟩
end Go.Proofs.YtdmlpblaelfdmaaGreatDoor
namespace Go.Proofs.YtdmlpblaelfdmaaGreatDoor
open Go.RowKit

theorem rotl32_bv (x : UInt32) (n : Nat) (h1 : 1 ≤ n) (h : n < 32) : (rotl32 x n).toBitVec = x.toBitVec.rotateLeft n := by
  unfold rotl32
  apply BitVec.eq_of_getLsbD_eq
  intro i hi
  rw [BitVec.getLsbD_rotateLeft]
  simp only [UInt32.toBitVec_or, UInt32.toBitVec_shiftLeft, UInt32.toBitVec_shiftRight, UInt32.toBitVec_ofNat', BitVec.getLsbD_or]
  have e1 : (BitVec.ofNat 32 n % 32).toNat = n := by simp [BitVec.toNat_umod, Nat.mod_eq_of_lt (show n < 4294967296 by omega), Nat.mod_eq_of_lt h]
  have e2 : (BitVec.ofNat 32 (32 - n) % 32).toNat = 32 - n := by simp [BitVec.toNat_umod, Nat.mod_eq_of_lt (show 32 - n < 4294967296 by omega), Nat.mod_eq_of_lt (show 32 - n < 32 by omega)]
  rw [BitVec.shiftLeft_eq', BitVec.ushiftRight_eq', e1, e2, BitVec.getLsbD_shiftLeft, BitVec.getLsbD_ushiftRight, Nat.mod_eq_of_lt h]
  by_cases hlt : i < n
  · simp [hlt, hi]
  · simp [hlt, hi, BitVec.getLsbD_of_ge x.toBitVec (32 - n + i) (by omega)]
theorem rotl32_step (x : UInt32) (n : Nat) (h1 : 1 ≤ n) (h : n + 1 < 32) : rotl32 (rotl32 x n) 1 = rotl32 x (n + 1) := by
  apply UInt32.toBitVec_inj.1
  rw [rotl32_bv _ 1 (by omega) (by omega), rotl32_bv _ n h1 (by omega), rotl32_bv _ (n + 1) (by omega) h]
  apply BitVec.eq_of_getLsbD_eq
  intro i hi
  simp only [BitVec.getLsbD_rotateLeft, Nat.mod_eq_of_lt (show 1 < 32 by omega), Nat.mod_eq_of_lt (show n < 32 by omega), Nat.mod_eq_of_lt h]
  by_cases h0 : i < 1
  · have h3 : ¬ 32 - 1 + i < n := by omega
    have h4 : i < n + 1 := by omega
    have h5 : 32 - 1 + i < 32 := by omega
    simp only [h0, h3, h4, h5, decide_true, decide_false, cond_true, cond_false, Bool.true_and]
    congr 1; omega
  · by_cases h2 : i - 1 < n
    · have h4 : i < n + 1 := by omega
      simp only [h0, h2, h4, hi, decide_true, decide_false, cond_true, cond_false, Bool.true_and]
      congr 1; omega
    · have h4 : ¬ i < n + 1 := by omega
      have h5 : i - 1 < 32 := by omega
      simp only [h0, h2, h4, h5, hi, decide_true, decide_false, cond_false, Bool.true_and]
      congr 1; omega
def rotI (x : UInt32) : Nat → UInt32
  | 0 => x
  | n + 1 => rotl32 (rotI x n) 1
theorem rotI_eq (x : UInt32) (n : Nat) (h1 : 1 ≤ n) (h : n < 32) : rotI x n = rotl32 x n := by
  induction n with
  | zero => omega
  | succ n ih =>
    by_cases h0 : n = 0
    · subst h0; rfl
    · rw [rotI, ih (by omega) (by omega), rotl32_step x n (by omega) h]
theorem rot1_lo (x : UInt32) (h : n32 x * 2 < 4294967296) : n32 x * 2 = n32 (rotl32 x 1) := by
  have e : (rotl32 x 1).toNat = x.toNat <<< 1 % 4294967296 ||| x.toNat >>> 31 := rfl
  unfold n32 at h ⊢
  rw [e, Nat.shiftLeft_eq, Nat.shiftRight_eq_div_pow, show x.toNat / 2 ^ 31 = 0 by omega, Nat.or_zero]
  omega
theorem rot1_hi (x : UInt32) (h : ¬ n32 x * 2 < 4294967296) : n32 x * 2 - 4294967296 + 1 = n32 (rotl32 x 1) := by
  have e : (rotl32 x 1).toNat = x.toNat <<< 1 % 4294967296 ||| x.toNat >>> 31 := rfl
  have hlt := x.toNat_lt
  unfold n32 at h ⊢
  have e2 : x.toNat * 2 ^ 1 % 4294967296 = (x.toNat - 2147483648) <<< 1 := by rw [Nat.shiftLeft_eq]; omega
  rw [e, Nat.shiftLeft_eq, Nat.shiftRight_eq_div_pow, show x.toNat / 2 ^ 31 = 1 by omega, e2, ← Nat.shiftLeft_add_eq_or_of_lt (by omega : 1 < 2 ^ 1), Nat.shiftLeft_eq]
  omega
set_option maxHeartbeats 400000 in
theorem left_any (x : UInt32) (n : Nat) (w : World) (h : n < 1000) :
    Calls Tryz.prog 178 #[.int .u64 (n32 x), .int .i64 (n : Int)] w fun e w' => e = .returned (.int .u64 (n32 (rotI x n))) ∧ w = w' := by
  go_enter Tryz.func178, Tryz.ntmps178
  go_wp2
  go_loop [0, 5] (fun v i => ∃ k : Nat, k ≤ n ∧ i = .int .i64 k ∧ v = .int .u64 (n32 (rotI x k))) (fun _ i => n - (intOf i).toNat)
  case atStart => exact ⟨0, Nat.zero_le _, rfl, rfl⟩
  case round =>
    obtain ⟨k, hk, rfl, rfl⟩ := hrel
    by_cases hlt : k < n
    · obtain ⟨y, hy⟩ : ∃ y, y = rotI x k := ⟨_, rfl⟩
      have hn : rotI x (k + 1) = rotl32 y 1 := by rw [rotI, hy]
      rw [← hy]
      have HN := hid hn
      clear hn hy
      have h0 := n32_nonneg y
      have h1 := n32_lt y
      have hw : IntKind.u64.wrap (n32 y * 2) = n32 y * 2 := by rw [wrap_u64]; omega
      by_cases hc : n32 y * 2 < 4294967296
      · have hd : decide (4294967296 ≤ n32 y * 2) = false := by simp; omega
        have hr := hid (rot1_lo y hc)
        go_wp2
        go_round
        case rel => exact ⟨k + 1, by omega, by go_num, by rw [HN.out, ← hr.out]⟩
        case measure => simp [intOf]; omega
      · have hd : decide (4294967296 ≤ n32 y * 2) = true := by simp; omega
        have hw2 : IntKind.u64.wrap (n32 y * 2 - 4294967296) = n32 y * 2 - 4294967296 := by rw [wrap_u64]; omega
        have hw3 : IntKind.u64.wrap (n32 y * 2 - 4294967296 + 1) = n32 y * 2 - 4294967296 + 1 := by rw [wrap_u64]; omega
        have hr := hid (rot1_hi y hc)
        go_wp2
        go_round
        case rel => exact ⟨k + 1, by omega, by go_num, by rw [HN.out, ← hr.out]⟩
        case measure => simp [intOf]; omega
    · go_wp2
      obtain rfl : k = n := by omega
      go_ret
      exact ⟨rfl, rfl⟩
end Go.Proofs.YtdmlpblaelfdmaaGreatDoor
namespace Go.Proofs.YtdmlpblaelfdmaaGreatDoor
open Go.RowKit

/-- The slice v is the call's own and holds f of the list. -/
def Own {α : Type} (w : World) (base : Nat) (t : TypeId) (f : α → Value) (v : Value) (l : List α) : Prop := w.ownsRow base t 1 v l.length (l.map f)
section
variable {α : Type} {w w' : World} {base : Nat} {t : TypeId} {f : α → Value} {v : Value} {l : List α}
theorem Own.nil (w : World) (base : Nat) (t : TypeId) (f : α → Value) : Own w base t f (.slice none 0 0) [] := World.ownsRow_nil _ _ _ _
theorem Own.mono (h : Own w base t f v l) {b : Nat} (hb : b ≤ base) : Own w b t f v l := by
  refine ⟨h.1, ?_⟩
  rcases h.2 with hn | ⟨g, cap, cur, e, hbg, rest⟩
  · exact .inl hn
  · exact .inr ⟨g, cap, cur, e, Nat.le_trans hb hbg, rest⟩
theorem Own.form (h : Own w base t f v l) : (v = .slice none 0 0 ∧ l = []) ∨ ∃ g cap, v = .slice (some ⟨g, 0, none⟩) l.length cap ∧ base ≤ g ∧ g < w.heap.size ∧ l.length ≤ cap ∧ cap ≤ maxLen := by
  rcases h.2 with ⟨rfl, hn⟩ | ⟨g, cap, cur, rfl, hbg, hh, hc, hm, _⟩
  · exact .inl ⟨rfl, List.eq_nil_of_length_eq_zero hn⟩
  · exact .inr ⟨g, cap, rfl, hbg, (Array.getElem?_eq_some_iff.1 hh).1, hc, hm⟩
/-- A slice value: its address may be nil, where it is empty. -/
theorem Own.slice (h : Own w base t f v l) : ∃ A cap, v = .slice A l.length cap := by
  rcases h.form with ⟨rfl, rfl⟩ | ⟨g, cap, rfl, _⟩
  · exact ⟨_, _, rfl⟩
  · exact ⟨_, _, rfl⟩
theorem Own.cell {g cap : Nat} (h : Own w base t f (.slice (some ⟨g, 0, none⟩) l.length cap) l) (z : α) (j : Nat) (hj : j < l.length) : w.cell? ⟨g, j, none⟩ = some (f (l.getD j z)) := by
  have := h.cells (g := g) rfl j (f (l.getD j z)) (by simp [List.getD_eq_getElem?_getD, List.getElem?_eq_getElem hj])
  rwa [addr_add] at this
theorem Own.frozen {g cap : Nat} (h : Own w base t f (.slice (some ⟨g, 0, none⟩) l.length cap) l) (j : Nat) : w.frozen? ⟨g, j, none⟩ = false := World.ownsRow.frozenAt h j
theorem Own.lt {g n cap : Nat} (h : Own w base t f (.slice (some ⟨g, 0, none⟩) n cap) l) : base ≤ g ∧ g < w.heap.size := World.ownsRow.lt h g rfl
theorem Own.lt_ (h : Own w base t f v l) : ∀ k, v.ownBlock = some k → base ≤ k := fun k hk => (World.ownsRow.lt h k hk).1
theorem Own.below_of (h : Own w base t f v l) (hg : w.grownBy w' v.ownBlock) (hb : base ≤ w.heap.size) : Below base w w' := (Below.refl _ _).grown hg hb h.lt_
theorem Own.drew (h : Own w base t f v l) : Own w.drew base t f v l := h
theorem Own.drewN (h : Own w base t f v l) (n : Nat) : Own (w.drewN n) base t f v l := h
theorem Own.alloc (h : Own w base t f v l) (o : Obj) : Own (w.alloc o) base t f v l := World.ownsRow.alloc h o
theorem Own.below {B : Nat} (h : Own w base t f v l) (hb : Below B w w') (hB : w.heap.size ≤ B) : Own w' base t f v l := by
  refine ⟨h.1, ?_⟩
  rcases h.2 with hn | ⟨g, cap, cur, e, hbg, hh, rest⟩
  · exact .inl hn
  · exact .inr ⟨g, cap, cur, e, hbg, (hb.block g (Nat.lt_of_lt_of_le (Array.getElem?_eq_some_iff.1 hh).1 hB)).trans hh, rest⟩
theorem Own.grown {r : Option Nat} (h : Own w base t f v l) (hg : w.grownBy w' r) (hne : v.ownBlock = none ∨ v.ownBlock ≠ r) : Own w' base t f v l := World.ownsRow.kept h hg hne
/-- One element is stored. -/
theorem Own.set_ {g n cap : Nat} (h : Own w base t f (.slice (some ⟨g, 0, none⟩) n cap) l) (i : Nat) (x : α) : Own (w.setCell ⟨g, i, none⟩ (f x)) base t f (.slice (some ⟨g, 0, none⟩) n cap) (l.set i x) := by
  have hn : n = l.length := by
    rcases h.form with ⟨e, _⟩ | ⟨_, _, e, _⟩
    · cases e
    · injection e
  subst hn
  have := World.ownsRow.stored h i (f x)
  unfold Own
  rw [List.length_set, List.map_set]
  exact this.1
/-- The first k elements of a row are a row. -/
theorem Own.take {g n cap k : Nat} (h : Own w base t f (.slice (some ⟨g, 0, none⟩) n cap) l) (hk : k ≤ l.length) : Own w base t f (.slice (some ⟨g, 0, none⟩) k cap) (l.take k) := by
  rcases h.2 with ⟨e, _⟩ | ⟨g', cap', cur, e, hbg, hh, hc, hm, hs, ht⟩
  · cases e
  · injection e with e1 e2 e3
    injection e1 with e1
    injection e1 with e1
    subst e1; subst e3; subst e2
    refine ⟨by simp, .inr ⟨g, cap, cur, by rw [List.length_take, Nat.min_eq_left hk], hbg, hh, by rw [List.length_take]; omega, hm, hs, ?_⟩⟩
    rw [List.map_take, ← ht, List.take_take, List.length_take]
    congr 1; omega
end
theorem Own.apart {α β : Type} {w : World} {b b' t t' : Nat} {f : α → Value} {f' : β → Value} {v v' : Value} {l : List α} {l' : List β} (h : Own w b t f v l) (h' : Own w b' t' f' v' l') (hne : t ≠ t') : v.ownBlock = none ∨ v.ownBlock ≠ v'.ownBlock := by
  rcases h.2 with ⟨rfl, _⟩ | ⟨g, cap, cur, rfl, _, hh, _⟩
  · exact .inl rfl
  · refine .inr (fun e => ?_)
    rcases h'.2 with ⟨rfl, _⟩ | ⟨g', cap', cur', rfl, _, hh', _⟩
    · simp [Value.ownBlock] at e
    · simp only [Value.ownBlock, Option.some.injEq] at e
      subst e
      rw [hh] at hh'
      injection hh' with hh'
      injection hh' with _ ht
      exact hne ht
theorem Own.bytes {w : World} {base t g n cap : Nat} {l : List UInt8} (h : Own w base t U8 (.slice (some ⟨g, 0, none⟩) n cap) l) : Bytes w g 0 l := fun j hj => by
  have := h.cells (g := g) rfl j (U8 (l[j])) (by simp [hj])
  rw [addr_add] at this
  rw [Nat.zero_add]
  exact this
/-- A new block of one literal's elements. -/
theorem Own.new {α : Type} (w : World) (base : Nat) (t : TypeId) (f : α → Value) (l : List α) (hb : base ≤ w.heap.size) (hm : l.length ≤ maxLen) : Own (w.alloc (.cells (l.map f).toArray t)) base t f (.slice (some ⟨w.heap.size, 0, none⟩) l.length l.length) l :=
  ⟨by simp, .inr ⟨w.heap.size, l.length, (l.map f).toArray, rfl, hb, heap_alloc_new w _, Nat.le_refl _, hm, by simp, by simp [List.take_of_length_le]⟩⟩
section
variable {P : Program} {α : Type}
/-- append(v, the elements that lie at b). -/
theorem step_append_lit {ops : Array Oper} {o : Oper} {a : Act} {w : World} {K : Act → World → Prop} {Q : Exit → Act → World → Prop} {E : Prop} (hgd : o.guard = none) (s x : Operand) (t : TypeId)
    (ho : o.op = .call { callee := .builtin .append, args := #[s, x], argTypes := #[t, t] })
    (base : Nat) (e : TypeId) (i : TypeInfo) (z : Value) (bytes : Nat) (f : α → Value) (hf : ∀ x, (f x).oneCell' = true) (ht : P.underlying t = some (.slice e)) (hi : P.info? e = some i) (hz : i.zero = some z)
    (hsize : i.size = 1) (hby : i.bytes = bytes) (hzs : z.cells.size = 1) (hb16 : bytes ≤ 16)
    (v : Value) (l m : List α) (n : Nat) (hn : m.length = n) (hs : a.eval s = v) (hown : Own w base e f v l)
    (b off c : Nat) (hx : a.eval x = .slice (some ⟨b, off, none⟩) n c) (hnews : ∀ j u, (m.map f)[j]? = some u → w.cell? ⟨b, off + j, none⟩ = some u)
    (hnm : l.length + n ≤ 1000000000000) (hbase : base ≤ w.heap.size)
    (h : ∀ v' w', Own w' base e f v' (l ++ m) → w.grownBy w' v.ownBlock → Below base w w' → K (a.put o.dst v') w') : if Region.wanted o (yielded ops a.tmps) = true then Oper.wp P o a w K Q else E := by
  subst hn
  have hw : Region.wanted o (yielded ops a.tmps) = true := by simp [Region.wanted, hgd]
  rw [if_pos hw]
  refine wp_append_own w s x t ho base e i z 1 bytes ht hi hz hsize hby hzs (by decide) v l.length (l.map f) hs hown ⟨b, off, none⟩ m.length c (m.map f) hx (by simp) (fun j u hu => ?_) (by intro x hx; simp at hx; obtain ⟨y, _, rfl⟩ := hx; exact hf y) (by unfold maxLen; omega) ?_ hbase ?_
  · have e : (⟨b, off, none⟩ : Addr).add j = ⟨b, off + j, none⟩ := by unfold Addr.add; split <;> simp_all
    rw [e]; exact hnews j u hu
  · have := Nat.mul_le_mul hnm hb16; omega
  · intro v' w' hown' hg _
    refine h v' w' (by unfold Own; rw [List.length_append, List.map_append]; exact hown') hg ((Below.refl _ _).grown hg hbase (fun k hk => ?_))
    exact (hown.lt_ k hk)
theorem wpList_append_lit {ops : Array Oper} {rest : List Oper} {o : Oper} {a : Act} {w : World} {Q : Exit → Act → World → Prop} (hgd : o.guard = none) (s x : Operand) (t : TypeId)
    (ho : o.op = .call { callee := .builtin .append, args := #[s, x], argTypes := #[t, t] })
    (base : Nat) (e : TypeId) (i : TypeInfo) (z : Value) (bytes : Nat) (f : α → Value) (hf : ∀ x, (f x).oneCell' = true) (ht : P.underlying t = some (.slice e)) (hi : P.info? e = some i) (hz : i.zero = some z)
    (hsize : i.size = 1) (hby : i.bytes = bytes) (hzs : z.cells.size = 1) (hb16 : bytes ≤ 16)
    (v : Value) (l m : List α) (n : Nat) (hn : m.length = n) (hs : a.eval s = v) (hown : Own w base e f v l)
    (b off c : Nat) (hx : a.eval x = .slice (some ⟨b, off, none⟩) n c) (hnews : ∀ j u, (m.map f)[j]? = some u → w.cell? ⟨b, off + j, none⟩ = some u)
    (hnm : l.length + n ≤ 1000000000000) (hbase : base ≤ w.heap.size)
    (h : ∀ v' w', Own w' base e f v' (l ++ m) → w.grownBy w' v.ownBlock → Below base w w' → wpList P ops Q rest (a.put o.dst v') w') : wpList P ops Q (o :: rest) a w :=
  wpList_plain hgd fun K hK => by
    have hw : Region.wanted o (yielded ops a.tmps) = true := by simp [Region.wanted, hgd]
    have := step_append_lit (P := P) (ops := ops) (w := w) (K := K) (Q := Q) (E := True) hgd s x t ho base e i z bytes f hf ht hi hz hsize hby hzs hb16 v l m n hn hs hown b off c hx hnews hnm hbase (fun v' w' h1 h2 h3 => hK _ _ (h v' w' h1 h2 h3))
    rwa [if_pos hw] at this
theorem new_lit (w : World) (t : TypeId) (cs : Array Value) (xs : List Value) (h : cs = xs.toArray) : ∀ j u, xs[j]? = some u → (w.alloc (.cells cs t)).cell? ⟨w.heap.size, 0 + j, none⟩ = some u := by
  subst h
  intro j u hu
  rw [(Blk.new w t _).cell]; simpa using hu
/-- append(v, news...), v and the news the call's own rows (or nil). -/
theorem run_append_rows (w : World) (base base2 : Nat) (t ty e : TypeId) (i : TypeInfo) (z : Value) (bytes : Nat) (f : α → Value) (hf : ∀ x, (f x).oneCell' = true) (ht : P.underlying t = some (.slice e)) (hi : P.info? e = some i) (hz : i.zero = some z)
    (hsize : i.size = 1) (hby : i.bytes = bytes) (hzs : z.cells.size = 1) (v u : Value) (l m : List α) (hv : Own w base e f v l) (hu : Own w base2 e f u m)
    (h63 : l.length + m.length ≤ 1000000) (hbytes : bytes ≤ 16) (hbase : base ≤ w.heap.size) :
    ∃ v' w', (Builtin.append_ #[t, t] ty #[v, u]).run P w = .ok v' w' ∧ Own w' base e f v' (l ++ m) ∧ w.grownBy w' v.ownBlock := by
  have hb1 : (l.length + m.length) * bytes ≤ 140737488355328 := by
    have := Nat.mul_le_mul h63 hbytes; omega
  rcases hu.form with ⟨rfl, rfl⟩ | ⟨g, cap, rfl, _, _, _, _⟩
  · refine ⟨v, w, ?_, by simpa using hv, grown_refl _ _⟩
    rcases hv.form with ⟨rfl, rfl⟩ | ⟨g, cap, rfl, _, _, hc, _⟩
    · simp [Builtin.append_, run_underlying ht, sizeOf, typeInfo, hi, Builtin.lenOf, Builtin.firstCells]
    · simp [Builtin.append_, run_underlying ht, sizeOf, typeInfo, hi, Builtin.lenOf, Builtin.firstCells, loadCells, hc, storeCells]
  · obtain ⟨v', w', h1, h2, h3, _⟩ := run_append_own (P := P) w base t ty e i z 1 bytes ht hi hz hsize hby hzs (by omega) v l.length (l.map f) hv ⟨g, 0, none⟩ m.length cap (m.map f) (by simp) (hu.cells rfl) (by intro x hx; simp at hx; obtain ⟨y, _, rfl⟩ := hx; exact hf y) (by unfold maxLen; omega) hb1 hbase
    exact ⟨v', w', h1, by unfold Own; rw [List.length_append, List.map_append]; exact h2, h3⟩
end
end Go.Proofs.YtdmlpblaelfdmaaGreatDoor
namespace Go.Proofs.YtdmlpblaelfdmaaGreatDoor
open Go.RowKit

/-- A word of 32 bits in a cell of 64. -/
abbrev W64 (x : UInt32) : Value := .int .u64 (n32 x)
theorem le4 (a b c d : UInt8) : n8 a + 256 * n8 b + 65536 * n8 c + 16777216 * n8 d = n32 (le32 [a, b, c, d] 4) := by
  have h1 := a.toNat_lt; have h2 := b.toNat_lt; have h3 := c.toNat_lt; have h4 := d.toNat_lt
  have e : (le32 [a, b, c, d] 4).toNat = (((0 ||| a.toNat <<< 0 % 4294967296) ||| b.toNat <<< 8 % 4294967296) ||| c.toNat <<< 16 % 4294967296) ||| d.toNat <<< 24 % 4294967296 := rfl
  have m1 : b.toNat <<< 8 % 4294967296 = b.toNat <<< 8 := by rw [Nat.shiftLeft_eq]; omega
  have m2 : c.toNat <<< 16 % 4294967296 = c.toNat <<< 16 := by rw [Nat.shiftLeft_eq]; omega
  have m3 : d.toNat <<< 24 % 4294967296 = d.toNat <<< 24 := by rw [Nat.shiftLeft_eq]; omega
  have o1 : a.toNat ||| b.toNat <<< 8 = b.toNat <<< 8 + a.toNat := by rw [Nat.or_comm, Nat.shiftLeft_add_eq_or_of_lt (show a.toNat < 2 ^ 8 by omega)]
  have o2 : (b.toNat <<< 8 + a.toNat) ||| c.toNat <<< 16 = c.toNat <<< 16 + (b.toNat <<< 8 + a.toNat) := by rw [Nat.or_comm, Nat.shiftLeft_add_eq_or_of_lt (show b.toNat <<< 8 + a.toNat < 2 ^ 16 by rw [Nat.shiftLeft_eq]; omega)]
  have o3 : (c.toNat <<< 16 + (b.toNat <<< 8 + a.toNat)) ||| d.toNat <<< 24 = d.toNat <<< 24 + (c.toNat <<< 16 + (b.toNat <<< 8 + a.toNat)) := by rw [Nat.or_comm, Nat.shiftLeft_add_eq_or_of_lt (show c.toNat <<< 16 + (b.toNat <<< 8 + a.toNat) < 2 ^ 24 by rw [Nat.shiftLeft_eq, Nat.shiftLeft_eq]; omega)]
  unfold n8 n32
  rw [e, Nat.zero_or, Nat.shiftLeft_zero, Nat.mod_eq_of_lt (show a.toNat < 4294967296 by omega), m1, m2, m3, o1, o2, o3, Nat.shiftLeft_eq, Nat.shiftLeft_eq, Nat.shiftLeft_eq]
  omega
theorem infoU64 : (Tryz.prog.info? 25).map (fun i => (i.zero, i.size, i.bytes)) = some (some (.int .u64 0), 1, 8) := by kernel_rfl
theorem four_of (l : List UInt8) (k : Nat) (h : k + 4 ≤ l.length) : (l.drop k).take 4 = [l.getD k 0, l.getD (k + 1) 0, l.getD (k + 2) 0, l.getD (k + 3) 0] := by
  rw [List.drop_eq_getElem_cons (by omega), List.drop_eq_getElem_cons (by omega), List.drop_eq_getElem_cons (by omega), List.drop_eq_getElem_cons (by omega)]
  simp only [List.take_succ_cons, List.take_zero, List.getD_eq_getElem?_getD, List.getElem?_eq_getElem (show k < l.length by omega), List.getElem?_eq_getElem (show k + 1 < l.length by omega), List.getElem?_eq_getElem (show k + 2 < l.length by omega), List.getElem?_eq_getElem (show k + 3 < l.length by omega), Option.getD_some]
theorem byte_at (s : ByteArray) (k : Nat) (h : k < s.size) : ((s[k].toNat : Nat) : Int) = n8 (s.data.toList.getD k 0) := by
  have h2 : k < s.data.toList.length := h
  rw [List.getD_eq_getElem?_getD, List.getElem?_eq_getElem h2]; rfl
set_option maxHeartbeats 1000000 in
set_option maxRecDepth 100000 in
theorem words_any (s : ByteArray) (n : Nat) (w : World) (hs : s.size = 4 * n) (hn : n ≤ 1000) :
  Calls Tryz.prog 151 #[.string s] w fun e w' => ∃ v, e = .returned v ∧ Own w' w.heap.size 25 W64 v (leWords s.data.toList n) ∧ Below w.heap.size w w' := by
 obtain ⟨i0, hi, hz0, hz1, hz2⟩ := info_parts infoU64
 have hsl : s.data.toList.length = s.size := rfl
 go_enter Tryz.func151, Tryz.ntmps151
 go_wp2
 go_loopw [3, 4] (fun V i wr => ∃ k : Nat, k ≤ n ∧ i = .int .i64 (4 * (k : Int)) ∧ Own wr w.heap.size 25 W64 V (leWords s.data.toList k) ∧ Below w.heap.size w wr) (fun _ i _ => 4 * n - (intOf i).toNat)
 case atStart => exact ⟨0, Nat.zero_le _, rfl, Own.new w _ _ W64 [] (Nat.le_refl _) (Nat.zero_le _), (Below.refl _ _).alloc (Nat.le_refl _) _⟩
 case round =>
  obtain ⟨k, hk, rfl, hown, hbel⟩ := hrel
  by_cases hlt : k < n
  ·have hd : decide (4 * (k : Int) + 3 < (s.size : Int)) = true := by simp; omega
   have q0 : 4 * k < s.size := by omega
   have q1 : 4 * k + 1 < s.size := by omega
   have q2 : 4 * k + 2 < s.size := by omega
   have q3 : 4 * k + 3 < s.size := by omega
   have b0 := byte_at s (4 * k) q0
   have b1 := byte_at s (4 * k + 1) q1
   have b2 := byte_at s (4 * k + 2) q2
   have b3 := byte_at s (4 * k + 3) q3
   have hnx : leWords s.data.toList (k + 1) = leWords s.data.toList k ++ [le32 [s.data.toList.getD (4 * k) 0, s.data.toList.getD (4 * k + 1) 0, s.data.toList.getD (4 * k + 2) 0, s.data.toList.getD (4 * k + 3) 0] 4] := by
    rw [leWords_succ, four_of _ _ (by omega)]
   obtain ⟨x0, e0⟩ : ∃ x, x = s.data.toList.getD (4 * k) 0 := ⟨_, rfl⟩
   obtain ⟨x1, e1⟩ : ∃ x, x = s.data.toList.getD (4 * k + 1) 0 := ⟨_, rfl⟩
   obtain ⟨x2, e2⟩ : ∃ x, x = s.data.toList.getD (4 * k + 2) 0 := ⟨_, rfl⟩
   obtain ⟨x3, e3⟩ : ∃ x, x = s.data.toList.getD (4 * k + 3) 0 := ⟨_, rfl⟩
   rw [← e0] at b0 hnx
   rw [← e1] at b1 hnx
   rw [← e2] at b2 hnx
   rw [← e3] at b3 hnx
   have hle := hid (le4 x0 x1 x2 x3)
   have HNX := hid hnx
   have HSL := hid hsl
   have HSZ := hid hs
   have hLn := length_leWords s.data.toList k
   have HLN := hid hLn
   have hsb : s.size ≤ 1000000 := by omega
   have k1 : (4 * (k : Int)) < s.size := by omega
   have k2 : (4 * (k : Int)) + 1 < s.size := by omega
   have k3 : (4 * (k : Int)) + 2 < s.size := by omega
   have k4 : (4 * (k : Int)) + 3 < s.size := by omega
   have z0 : (0 : Int) ≤ 4 * (k : Int) := by omega
   have z1 : (0 : Int) ≤ 4 * (k : Int) + 1 := by omega
   have z2 : (0 : Int) ≤ 4 * (k : Int) + 2 := by omega
   have z3 : (0 : Int) ≤ 4 * (k : Int) + 3 := by omega
   have HV : Hid (∀ g0 g1 g2 g3, IntKind.u64.wrap (IntKind.u64.wrap (IntKind.u64.wrap (IntKind.u64.wrap ((s[(4 * (k : Int)).toNat]'g0).toNat : Int) + IntKind.u64.wrap (256 * IntKind.u64.wrap ((s[(4 * (k : Int) + 1).toNat]'g1).toNat : Int))) + IntKind.u64.wrap (65536 * IntKind.u64.wrap ((s[(4 * (k : Int) + 2).toNat]'g2).toNat : Int))) + IntKind.u64.wrap (16777216 * IntKind.u64.wrap ((s[(4 * (k : Int) + 3).toNat]'g3).toNat : Int))) = n8 x0 + 256 * n8 x1 + 65536 * n8 x2 + 16777216 * n8 x3) := by
    intro g0 g1 g2 g3
    have t0 : (4 * (k : Int)).toNat = 4 * k := by omega
    have t1 : (4 * (k : Int) + 1).toNat = 4 * k + 1 := by omega
    have t2 : (4 * (k : Int) + 2).toNat = 4 * k + 2 := by omega
    have t3 : (4 * (k : Int) + 3).toNat = 4 * k + 3 := by omega
    have n1 := n8_lt x1; have n2 := n8_lt x2; have n3 := n8_lt x3; have n0 := n8_lt x0
    have p1 := n8_nonneg x1; have p2 := n8_nonneg x2; have p3 := n8_nonneg x3; have p0 := n8_nonneg x0
    simp only [t0, t1, t2, t3, b0, b1, b2, b3, wrap_u64]
    omega
   have v1 : IntKind.i64.wrap (4 * (k : Int) + 1) = 4 * (k : Int) + 1 := IntWalk.i64_in _ (by omega)
   have v2 : IntKind.i64.wrap (4 * (k : Int) + 2) = 4 * (k : Int) + 2 := IntWalk.i64_in _ (by omega)
   have v3 : IntKind.i64.wrap (4 * (k : Int) + 3) = 4 * (k : Int) + 3 := IntWalk.i64_in _ (by omega)
   clear b0 b1 b2 b3
   clear e0 e1 e2 e3 hnx hs hsl hLn
   go_wp2
   have hle2 : W64 (le32 [x0, x1, x2, x3] 4) = .int .u64 (n8 x0 + 256 * n8 x1 + 65536 * n8 x2 + 16777216 * n8 x3) := by rw [hle.out]
   have HLE := hid hle2
   clear hle2
   -- region
   refine wp_region_held_drew (S := fun _ => True) (by kernel_rfl) trivial (fun hHeldw => ?_)
   refine wpAnyH_take (i := 0) (oi := _) (v := ?vw0) rfl (by kernel_rfl) (by kernel_rfl) (by kernel_rfl) (fun _ _ _ h => h) (Or.inl ⟨by rfl, ?hyw0⟩) hHeldw ?_
   case hyw0 => (intro w hSw; go_simp; rfl)
   simp only [Act.put]
   refine wpAnyH_take (i := 1) (oi := _) (v := ?vw1) rfl (by kernel_rfl) (by kernel_rfl) (by kernel_rfl) (fun _ _ _ h => h) (Or.inl ⟨by rfl, ?hyw1⟩) hHeldw ?_
   case hyw1 => (intro w hSw; go_simp; rfl)
   simp only [Act.put]
   refine wpAnyH_take (i := 2) (oi := _) (v := ?vw2) rfl (by kernel_rfl) (by kernel_rfl) (by kernel_rfl) (fun _ _ _ h => h) (Or.inl ⟨by rfl, ?hyw2⟩) hHeldw ?_
   case hyw2 => (intro w hSw; go_simp; rfl)
   simp only [Act.put]
   refine wpAnyH_take (i := 3) (oi := _) (v := ?vw3) rfl (by kernel_rfl) (by kernel_rfl) (by kernel_rfl) (fun _ _ _ h => h) (Or.inl ⟨by rfl, ?hyw3⟩) hHeldw ?_
   case hyw3 => (intro w hSw; go_simp; rfl)
   simp only [Act.put]
   refine wpAnyH_take (i := 4) (oi := _) (v := ?vw4) rfl (by kernel_rfl) (by kernel_rfl) (by kernel_rfl) (fun _ _ _ h => h) (Or.inl ⟨by rfl, ?hyw4⟩) hHeldw ?_
   case hyw4 => (intro w hSw; go_simp; rfl)
   simp only [Act.put]
   refine wpAnyH_take (i := 5) (oi := _) (v := ?vw5) rfl (by kernel_rfl) (by kernel_rfl) (by kernel_rfl) (fun _ _ _ h => h) (Or.inl ⟨by rfl, ?hyw5⟩) hHeldw ?_
   case hyw5 => (intro w hSw; go_simp; rfl)
   simp only [Act.put]
   refine wpAnyH_take (i := 6) (oi := _) (v := ?vw6) rfl (by kernel_rfl) (by kernel_rfl) (by kernel_rfl) (fun _ _ _ h => h) (Or.inl ⟨by rfl, ?hyw6⟩) hHeldw ?_
   case hyw6 => (intro w hSw; go_simp; rfl)
   simp only [Act.put]
   refine wpAnyH_take (i := 7) (oi := _) (v := ?vw7) rfl (by kernel_rfl) (by kernel_rfl) (by kernel_rfl) (fun _ _ _ h => h) (Or.inl ⟨by rfl, ?hyw7⟩) hHeldw ?_
   case hyw7 => (intro w hSw; go_simp; rfl)
   simp only [Act.put]
   refine wpAnyH_take (i := 8) (oi := _) (v := ?vw8) rfl (by kernel_rfl) (by kernel_rfl) (by kernel_rfl) (fun _ _ _ h => h) (Or.inl ⟨by rfl, ?hyw8⟩) hHeldw ?_
   case hyw8 => (intro w hSw; go_simp; rfl)
   simp only [Act.put]
   refine wpAnyH_take (i := 9) (oi := _) (v := ?vw9) rfl (by kernel_rfl) (by kernel_rfl) (by kernel_rfl) (fun _ _ _ h => h) (Or.inl ⟨by rfl, ?hyw9⟩) hHeldw ?_
   case hyw9 => (intro w hSw; go_simp; rfl)
   simp only [Act.put]
   refine wpAnyH_take (i := 10) (oi := _) (v := ?vw10) rfl (by kernel_rfl) (by kernel_rfl) (by kernel_rfl) (fun _ _ _ h => h) (Or.inl ⟨by rfl, ?hyw10⟩) hHeldw ?_
   case hyw10 => (intro w hSw; go_simp; rfl)
   simp only [Act.put]
   refine wpAnyH_take (i := 11) (oi := _) (v := ?vw11) rfl (by kernel_rfl) (by kernel_rfl) (by kernel_rfl) (fun _ _ _ h => h) (Or.inl ⟨by rfl, ?hyw11⟩) hHeldw ?_
   case hyw11 => (intro w hSw; go_simp; rfl)
   simp only [Act.put]
   refine wpAnyH_take (i := 12) (oi := _) (v := ?vw12) rfl (by kernel_rfl) (by kernel_rfl) (by kernel_rfl) (fun _ _ _ h => h) (Or.inl ⟨by rfl, ?hyw12⟩) hHeldw ?_
   case hyw12 => (intro w hSw; go_simp; rfl)
   simp only [Act.put]
   refine wpAnyH_take (i := 13) (oi := _) (v := ?vw13) rfl (by kernel_rfl) (by kernel_rfl) (by kernel_rfl) (fun _ _ _ h => h) (Or.inl ⟨by rfl, ?hyw13⟩) hHeldw ?_
   case hyw13 => (intro w hSw; go_simp; rfl)
   simp only [Act.put]
   refine wpAnyH_take (i := 14) (oi := _) (v := ?vw14) rfl (by kernel_rfl) (by kernel_rfl) (by kernel_rfl) (fun _ _ _ h => h) (Or.inl ⟨by rfl, ?hyw14⟩) hHeldw ?_
   case hyw14 => (intro w hSw; go_simp; rfl)
   simp only [Act.put]
   refine wpAnyH_take (i := 15) (oi := _) (v := ?vw15) rfl (by kernel_rfl) (by kernel_rfl) (by kernel_rfl) (fun _ _ _ h => h) (Or.inl ⟨by rfl, ?hyw15⟩) hHeldw ?_
   case hyw15 => (intro w hSw; go_simp; rfl)
   simp only [Act.put]
   refine wpAnyH_take (i := 16) (oi := _) (v := ?vw16) rfl (by kernel_rfl) (by kernel_rfl) (by kernel_rfl) (fun _ _ _ h => h) (Or.inl ⟨by rfl, ?hyw16⟩) hHeldw ?_
   case hyw16 => (intro w hSw; go_simp; rfl)
   simp only [Act.put]
   refine wpAnyH_take (i := 17) (oi := _) (v := ?vw17) rfl (by kernel_rfl) (by kernel_rfl) (by kernel_rfl) (fun _ _ _ h => h) (Or.inl ⟨by rfl, ?hyw17⟩) hHeldw ?_
   case hyw17 => (intro w hSw; go_simp; rfl)
   simp only [Act.put]
   refine wpAnyH_take (i := 18) (oi := _) (v := ?vw18) rfl (by kernel_rfl) (by kernel_rfl) (by kernel_rfl) (fun _ _ _ h => h) (Or.inl ⟨by rfl, ?hyw18⟩) hHeldw ?_
   case hyw18 => (intro w hSw; go_simp; rfl)
   simp only [Act.put]
   refine wpAnyH_take (i := 19) (oi := _) (v := ?vw19) rfl (by kernel_rfl) (by kernel_rfl) (by kernel_rfl) (fun _ _ _ h => h) (Or.inl ⟨by rfl, ?hyw19⟩) hHeldw ?_
   case hyw19 => (intro w hSw; go_simp; rfl)
   simp only [Act.put]
   refine wpAnyH_take (i := 20) (oi := _) (v := ?vw20) rfl (by kernel_rfl) (by kernel_rfl) (by kernel_rfl) (fun _ _ _ h => h) (Or.inl ⟨by rfl, ?hyw20⟩) hHeldw ?_
   case hyw20 => (intro w hSw; go_simp; rfl)
   simp only [Act.put]
   refine wpAnyH_take (i := 21) (oi := _) (v := ?vw21) rfl (by kernel_rfl) (by kernel_rfl) (by kernel_rfl) (fun _ _ _ h => h) (Or.inl ⟨by rfl, ?hyw21⟩) hHeldw ?_
   case hyw21 => (intro w hSw; go_simp; rfl)
   simp only [Act.put]
   refine wpAnyH_take (i := 22) (oi := _) (v := ?vw22) rfl (by kernel_rfl) (by kernel_rfl) (by kernel_rfl) (fun _ _ _ h => h) (Or.inl ⟨by rfl, ?hyw22⟩) hHeldw ?_
   case hyw22 => (intro w hSw; go_simp; rfl)
   simp only [Act.put]
   refine wpAnyH_take (i := 23) (oi := _) (v := ?vw23) rfl (by kernel_rfl) (by kernel_rfl) (by kernel_rfl) (fun _ _ _ h => h) (Or.inl ⟨by rfl, ?hyw23⟩) hHeldw ?_
   case hyw23 => (intro w hSw; go_simp; rfl)
   simp only [Act.put]
   refine wpAnyH_take (i := 24) (oi := _) (v := ?vw24) rfl (by kernel_rfl) (by kernel_rfl) (by kernel_rfl) (fun _ _ _ h => h) (Or.inl ⟨by rfl, ?hyw24⟩) hHeldw ?_
   case hyw24 => (intro w hSw; go_simp; rfl)
   simp only [Act.put]
   refine wpAnyH_take (i := 25) (oi := _) (v := ?vw25) rfl (by kernel_rfl) (by kernel_rfl) (by kernel_rfl) (fun _ _ _ h => h) (Or.inl ⟨by rfl, ?hyw25⟩) hHeldw ?_
   case hyw25 => (intro w hSw; go_simp; rfl)
   simp only [Act.put]
   refine wpAnyH_ready (rs := [26]) (by kernel_rfl) (by simp) ?_
   refine AllReadyH.cons (o := _) rfl (fun Kc hcont => ?_) AllReadyH.nil
   go_simp
   refine hcont.out _ _ trivial (fun hHeldw1 => ?_)
   clear hcont Kc
   refine wpAnyH_ready (rs := [27]) (by kernel_rfl) (by simp) ?_
   refine AllReadyH.cons (o := _) rfl (fun Kc hcont => ?_) AllReadyH.nil
   refine step_append_lit rfl (.tmp 13) (.tmp 39) 203 rfl w.heap.size 25 i0 _ 8 W64 (fun _ => rfl) Tryz.underlying203 hi hz0 hz1 hz2 rfl (by omega) _ _ [le32 [x0, x1, x2, x3] 4] 1 rfl rfl (hown.drew.alloc _) _ 0 1 rfl (new_lit _ _ _ _ (by rw [HV.out, List.map_cons, HLE.out]; rfl)) (by rw [HLN.out]; omega) (by simp <;> exact Nat.le_succ_of_le hbel.size) ?_
   intro V2 wz hown2 _ hbz
   refine hcont.out _ _ trivial (fun hHeldw2 => ?_)
   clear hcont Kc
   refine wpAnyH_take (i := 28) (oi := _) (v := ?vw28) rfl (by kernel_rfl) (by kernel_rfl) (by kernel_rfl) (fun _ _ _ h => h) (Or.inl ⟨by rfl, ?hyw28⟩) hHeldw2 ?_
   case hyw28 => (intro w hSw; go_simp; rfl)
   simp only [Act.put]
   refine wpAnyH_done (by kernel_rfl) ?_ _
   have hsz := hbel.size
   have hbel2 : Below w.heap.size w wz := ((hbel.drew).alloc (by simpa using hsz) _).trans hbz
   clear hbz hown hbel
   go_wp2
   go_roundw
   case rel => exact ⟨k + 1, by omega, by go_num, by rw [HNX.out]; exact hown2, hbel2⟩
   case measure => simp [intOf]; omega
  ·have hd : decide (4 * (k : Int) + 3 < (s.size : Int)) = false := by simp; omega
   rw [show k = n by omega] at hown
   go_wp2
   go_ret
   exact ⟨_, rfl, hown, hbel⟩
end Go.Proofs.YtdmlpblaelfdmaaGreatDoor
namespace Go.Proofs.YtdmlpblaelfdmaaGreatDoor
open Go.RowKit

theorem region_tail' {P : Program} {id : Nat} {Q : Exit → Act → World → Prop} {a : Act} {w : World} {l : List Oper} (n : Nat) (hm : P.follows .mixedOrders = true) (hB : Region.lexTailB .any l.toArray n = true)
    (h : wpStill P l.toArray w.drew (fun a' => wpList P l.toArray Q (l.drop n) a' w.drew) (l.take n) a) : (Code.region id l.toArray true).wp P Q a w :=
  wp_region_still_tail n hm hB h
def nAt (k : Nat) : Nat := [16, 12, 8, 7].getD k 0
def qsE (m : List UInt32) (a b d n : Nat) : List UInt32 := (m.set a (m.getD a 0 + m.getD b 0)).set d (rotl32 (m.getD d 0 ^^^ (m.getD a 0 + m.getD b 0)) n)
def qs (l : List UInt32) (a b c d : Nat) : Nat → List UInt32
  | 0 => l
  | k + 1 => if k % 2 = 0 then qsE (qs l a b c d k) a b d (nAt k) else qsE (qs l a b c d k) c d b (nAt k)
theorem length_qs (l : List UInt32) (a b c d k : Nat) : (qs l a b c d k).length = l.length := by
  induction k with
  | zero => rfl
  | succ k ih => rw [qs]; split <;> simp [qsE, ih]
theorem getD_set (l : List UInt32) (i j : Nat) (v : UInt32) (h : i < l.length) : (l.set i v).getD j 0 = if i = j then v else l.getD j 0 := by
  simp only [List.getD_eq_getElem?_getD, List.getElem?_set]
  by_cases e : i = j
  · subst e; simp [h]
  · simp [e]
theorem qs_four (l : List UInt32) (a b c d : Nat) (ha : a < l.length) (hb : b < l.length) (hc : c < l.length) (hd : d < l.length) (hab : a ≠ b) (hac : a ≠ c) (had : a ≠ d) (hbc : b ≠ c) (hbd : b ≠ d) (hcd : c ≠ d) :
    qs l a b c d 4 = quarter l a b c d := by
  apply List.ext_getElem?
  intro i
  have e : ∀ m : List UInt32, m.length = l.length → m[i]? = if i < l.length then some (m.getD i 0) else none := by
    intro m hm
    by_cases h : i < l.length
    · rw [if_pos h, List.getD_eq_getElem?_getD, List.getElem?_eq_getElem (by omega)]; rfl
    · rw [if_neg h, List.getElem?_eq_none (by omega)]
  rw [e _ (length_qs _ _ _ _ _ _), e _ (length_quarter _ _ _ _ _)]
  congr 2
  simp only [qs, qsE, quarter, qmix, nAt, Nat.reduceMod, if_true, Nat.one_ne_zero, if_false, List.getD_cons_zero, List.getD_cons_succ]
  have hba := hab.symm
  have hca := hac.symm
  have hda := had.symm
  have hcb := hbc.symm
  have hdb := hbd.symm
  have hdc := hcd.symm
  simp only [getD_set, List.length_set, *, if_true, if_false]
  by_cases h1 : a = i
  · subst h1; simp [*]
  · by_cases h2 : b = i
    · subst h2; simp [*]
    · by_cases h3 : c = i
      · subst h3; simp [*]
      · by_cases h4 : d = i
        · subst h4; simp [*]
        · simp [h1, h2, h3, h4]
theorem xor_w64 (x y : UInt32) : bits .xor .u64 (n32 x) (n32 y) = n32 (x ^^^ y) := by
  rw [n64_of_n32, n64_of_n32, xor_n64, n64_of_n32]; rfl
theorem add_w64 (x y : UInt32) : IntKind.u64.wrap (n32 x + n32 y) % 4294967296 = n32 (x + y) := by
  have := n32_lt x; have := n32_lt y; have := n32_nonneg x; have := n32_nonneg y
  rw [wrap_u64, ← add_n32']; omega
def QRel (w : World) (V : Value) (l : List UInt32) (bK : Nat) (wr : World) : Prop :=
  Own wr w.heap.size 25 W64 V l ∧ Below w.heap.size w wr ∧ Blk wr bK 3 #[.int .i64 16, .int .i64 12, .int .i64 8, .int .i64 7]
theorem leftN_any (x : UInt32) (n : Nat) (w : World) (h1 : 1 ≤ n) (h : n < 32) :
    Calls Tryz.prog 178 #[.int .u64 (n32 x), .int .i64 (n : Int)] w fun e w' => e = .returned (.int .u64 (n32 (rotl32 x n))) ∧ w = w' := by
  rw [← rotI_eq x n h1 h]; exact left_any x n w (by omega)
theorem leftN_q (x : UInt32) (n : Nat) (w : World) (h1 : 1 ≤ n) (h : n < 32) :
    Calls Tryz.prog 178 #[.int .u64 (n32 x), .int .i64 (n : Int)] w fun e w' => e = .returned (.int .u64 (n32 (rotl32 x n))) ∧ w' = w :=
  (leftN_any x n w h1 h).mono fun _ _ h => ⟨h.1, h.2.symm⟩
set_option maxHeartbeats 1000000 in
set_option maxRecDepth 100000 in
theorem refQuarter_any (V : Value) (l : List UInt32) (a b c d : Nat) (w : World) (hV : Own w 0 25 W64 V l) (hl : l.length = 16) (ha : a < 16) (hb : b < 16) (hc : c < 16) (hd : d < 16)
  (hab : a ≠ b) (hac : a ≠ c) (had : a ≠ d) (hbc : b ≠ c) (hbd : b ≠ d) (hcd : c ≠ d) :
  Calls Tryz.prog 152 #[V, .int .i64 (a : Int), .int .i64 (b : Int), .int .i64 (c : Int), .int .i64 (d : Int)] w
   fun e w' => ∃ V', e = .returned V' ∧ Own w' w.heap.size 25 W64 V' (quarter l a b c d) ∧ Below w.heap.size w w' := by
 obtain ⟨i0, hi, hz0, hz1, hz2⟩ := info_parts infoU64
 obtain ⟨V1, w1, hrun, hown1, hg1⟩ := run_append_rows (P := Tryz.prog) (w.alloc (.cells #[] 25)) w.heap.size 0 203 203 25 i0 _ 8 W64 (fun _ => rfl) Tryz.underlying203 hi hz0 hz1 hz2 rfl
  (.slice (some ⟨w.heap.size, 0, none⟩) 0 0) V [] l (Own.new w _ _ W64 [] (Nat.le_refl _) (Nat.zero_le _)) (hV.alloc _) (by rw [hl]; decide) (by omega) (by simp)
 have hbel1 : Below w.heap.size w w1 := ((Below.refl _ _).alloc (Nat.le_refl _) _).grown hg1 (by simp) (fun k hk => by injection hk with hk; exact hk ▸ Nat.le_refl _)
 rw [List.nil_append] at hown1
 have HR := hid hrun
 have hfin := qs_four l a b c d (by omega) (by omega) (by omega) (by omega) hab hac had hbc hbd hcd
 have HF := hid hfin
 have HL := hid hl
 obtain ⟨A, cap, hV2⟩ := hV.slice
 rw [hl] at hV2
 subst hV2
 clear hz0 hz1 hz2 hi hrun hfin hl hg1
 go_enter Tryz.func152, Tryz.ntmps152
 go_wp2_with (at_builtin; refine Lib.wpList_append_run _ rfl (.tmp 14) (.tmp 15) _ _ rfl _ _ rfl rfl _ _ HR.out ?_)
 rcases hown1.form with ⟨_, e⟩ | ⟨g, cap1, hV1, hg1, hg2, _, _⟩
 ·have := HL.out; rw [e] at this; exact absurd this (by decide)
 rw [HL.out] at hV1
 subst hV1
 have HG := hid (And.intro hg1 hg2)
 have hK0 : QRel w (.slice (some ⟨g, 0, none⟩) 16 cap1) (qs l a b c d 0) w1.heap.size (w1.alloc (.cells #[.int .i64 16, .int .i64 12, .int .i64 8, .int .i64 7] 3)) := ⟨hown1.alloc _, hbel1.alloc hbel1.size _, Blk.new w1 _ _⟩
 clear hown1 hbel1 HR
 go_loopw [13, 19] (fun _ i wr => ∃ k : Nat, k ≤ 4 ∧ i = .int .i64 k ∧ QRel w (.slice (some ⟨g, 0, none⟩) 16 cap1) (qs l a b c d k) w1.heap.size wr) (fun _ i _ => 4 - (intOf i).toNat)
 case atStart => exact ⟨0, Nat.zero_le _, rfl, hK0⟩
 case round =>
  clear hK0
  obtain ⟨k, hk, rfl, hR⟩ := hrel
  by_cases hlt : k < 4
  ·have h4 : k = 0 ∨ k = 1 ∨ k = 2 ∨ k = 3 := by omega
   rcases h4 with h4 | h4 | h4 | h4
   ·rw [show k = 0 by omega] at hR
    obtain ⟨hown, hbel, hbk⟩ := hR
    have hkc : wr.cell? ⟨w1.heap.size, 0, none⟩ = some (.int .i64 16) := hbk.cell 0
    have hq : qs l a b c d (0 + 1) = qsE (qs l a b c d 0) a b d 16 := rfl
    obtain ⟨m, hm⟩ : ∃ m, m = qs l a b c d 0 := ⟨_, rfl⟩
    have hml : m.length = 16 := by rw [hm, length_qs, HL.out]
    rw [← hm] at hown hq
    have HQ := hid hq
    have HML := hid hml
    clear hq hm
    rw [← hml] at hown
    have cx := hown.cell 0 a (by omega)
    have cy := hown.cell 0 b (by omega)
    have cz := hown.cell 0 d (by omega)
    have fx := hown.frozen a
    have fz := hown.frozen d
    rw [hml] at hown
    obtain ⟨X, hX⟩ : ∃ x, x = m.getD a 0 := ⟨_, rfl⟩
    obtain ⟨Y, hY⟩ : ∃ x, x = m.getD b 0 := ⟨_, rfl⟩
    obtain ⟨Z, hZ⟩ : ∃ x, x = m.getD d 0 := ⟨_, rfl⟩
    rw [← hX] at cx
    rw [← hY] at cy
    rw [← hZ] at cz
    have hE : qsE m a b d 16 = (m.set a (X + Y)).set d (rotl32 (Z ^^^ (X + Y)) 16) := by rw [qsE, ← hX, ← hY, ← hZ]
    have HE := hid hE
    have hadd := add_w64 X Y
    have hxor := xor_w64 Z (X + Y)
    have hle : (0 : Int) ≤ IntKind.u64.wrap (n32 X + n32 Y) := by have := n32_nonneg X; have := n32_nonneg Y; rw [wrap_u64]; omega
    have hkl : ((k : Int)) = 0 := by omega
    have hRR : QRel w (.slice (some ⟨g, 0, none⟩) 16 cap1) m w1.heap.size wr := ⟨hown, hbel, hbk⟩
    have HRR := hid hRR
    have HZ := hid hZ
    clear hX hY hZ hE hml hRR hown hbel hbk
    go_wp2
    go_region
    obtain ⟨w2, hw2⟩ : ∃ w2, w2 = (wr.setCell ⟨g, a, none⟩ (W64 (X + Y))).drew := ⟨_, rfl⟩
    have hR2 : QRel w (.slice (some ⟨g, 0, none⟩) 16 cap1) (m.set a (X + Y)) w1.heap.size w2 := by
     rw [hw2]
     exact ⟨(HRR.out.1.set_ a (X + Y)).drew, (HRR.out.2.1.setCell HG.out.1 _).drew, (HRR.out.2.2.far (fun e => by have e' : w1.heap.size = g := e; exact absurd e' (Nat.ne_of_gt HG.out.2)) _).drew⟩
    rw [← hw2]
    clear hw2 cx cy cz fx fz hadd hle HRR hkc
    have hml2 : (m.set a (X + Y)).length = 16 := by rw [List.length_set, HML.out]
    have hown2 := hR2.1
    rw [← hml2] at hown2
    have cz := hown2.cell 0 d (by rw [hml2]; omega)
    have cx := hown2.cell 0 a (by rw [hml2]; omega)
    have fz := hown2.frozen d
    rw [getD_set _ _ _ _ (by rw [HML.out]; omega), if_neg (by omega), ← HZ.out] at cz
    rw [getD_set _ _ _ _ (by rw [HML.out]; omega), if_pos rfl] at cx
    have HR2 := hid hR2
    clear hml2 hown2 hR2
    have hzi : (d : Int) < 16 := by omega
    have hxi : (a : Int) < 16 := by omega
    have hzp : (0 : Int) ≤ d := by omega
    have hxp : (0 : Int) ≤ a := by omega
    go_wp2
    refine region_tail' 13 (by kernel_rfl) (by kernel_rfl) ?_
    simp only [List.take_succ_cons, List.take_zero, List.drop_succ_cons, List.drop_zero]
    repeat still_step
    still_call (leftN_q _ 16 _ (by omega) (by omega))
    repeat still_step
    refine wpStill_nil ?_
    go_wp2
    go_roundw
    case rel =>
     refine ⟨0 + 1, by omega, by simp, ?_⟩
     rw [HQ.out, HE.out]
     exact ⟨(HR2.out.1.set_ d (rotl32 (Z ^^^ (X + Y)) 16)).drew, (HR2.out.2.1.setCell HG.out.1 _).drew, (HR2.out.2.2.far (fun e => by have e' : w1.heap.size = g := e; exact absurd e' (Nat.ne_of_gt HG.out.2)) _).drew⟩
    case measure => simp [intOf]; omega
   ·rw [show k = 1 by omega] at hR
    obtain ⟨hown, hbel, hbk⟩ := hR
    have hkc : wr.cell? ⟨w1.heap.size, 1, none⟩ = some (.int .i64 12) := hbk.cell 1
    have hq : qs l a b c d (1 + 1) = qsE (qs l a b c d 1) c d b 12 := rfl
    obtain ⟨m, hm⟩ : ∃ m, m = qs l a b c d 1 := ⟨_, rfl⟩
    have hml : m.length = 16 := by rw [hm, length_qs, HL.out]
    rw [← hm] at hown hq
    have HQ := hid hq
    have HML := hid hml
    clear hq hm
    rw [← hml] at hown
    have cx := hown.cell 0 c (by omega)
    have cy := hown.cell 0 d (by omega)
    have cz := hown.cell 0 b (by omega)
    have fx := hown.frozen c
    have fz := hown.frozen b
    rw [hml] at hown
    obtain ⟨X, hX⟩ : ∃ x, x = m.getD c 0 := ⟨_, rfl⟩
    obtain ⟨Y, hY⟩ : ∃ x, x = m.getD d 0 := ⟨_, rfl⟩
    obtain ⟨Z, hZ⟩ : ∃ x, x = m.getD b 0 := ⟨_, rfl⟩
    rw [← hX] at cx
    rw [← hY] at cy
    rw [← hZ] at cz
    have hE : qsE m c d b 12 = (m.set c (X + Y)).set b (rotl32 (Z ^^^ (X + Y)) 12) := by rw [qsE, ← hX, ← hY, ← hZ]
    have HE := hid hE
    have hadd := add_w64 X Y
    have hxor := xor_w64 Z (X + Y)
    have hle : (0 : Int) ≤ IntKind.u64.wrap (n32 X + n32 Y) := by have := n32_nonneg X; have := n32_nonneg Y; rw [wrap_u64]; omega
    have hkl : ((k : Int)) = 1 := by omega
    have hRR : QRel w (.slice (some ⟨g, 0, none⟩) 16 cap1) m w1.heap.size wr := ⟨hown, hbel, hbk⟩
    have HRR := hid hRR
    have HZ := hid hZ
    clear hX hY hZ hE hml hRR hown hbel hbk
    go_wp2
    go_region
    obtain ⟨w2, hw2⟩ : ∃ w2, w2 = (wr.setCell ⟨g, c, none⟩ (W64 (X + Y))).drew := ⟨_, rfl⟩
    have hR2 : QRel w (.slice (some ⟨g, 0, none⟩) 16 cap1) (m.set c (X + Y)) w1.heap.size w2 := by
     rw [hw2]
     exact ⟨(HRR.out.1.set_ c (X + Y)).drew, (HRR.out.2.1.setCell HG.out.1 _).drew, (HRR.out.2.2.far (fun e => by have e' : w1.heap.size = g := e; exact absurd e' (Nat.ne_of_gt HG.out.2)) _).drew⟩
    rw [← hw2]
    clear hw2 cx cy cz fx fz hadd hle HRR hkc
    have hml2 : (m.set c (X + Y)).length = 16 := by rw [List.length_set, HML.out]
    have hown2 := hR2.1
    rw [← hml2] at hown2
    have cz := hown2.cell 0 b (by rw [hml2]; omega)
    have cx := hown2.cell 0 c (by rw [hml2]; omega)
    have fz := hown2.frozen b
    rw [getD_set _ _ _ _ (by rw [HML.out]; omega), if_neg (by omega), ← HZ.out] at cz
    rw [getD_set _ _ _ _ (by rw [HML.out]; omega), if_pos rfl] at cx
    have HR2 := hid hR2
    clear hml2 hown2 hR2
    have hzi : (b : Int) < 16 := by omega
    have hxi : (c : Int) < 16 := by omega
    have hzp : (0 : Int) ≤ b := by omega
    have hxp : (0 : Int) ≤ c := by omega
    go_wp2
    refine region_tail' 13 (by kernel_rfl) (by kernel_rfl) ?_
    simp only [List.take_succ_cons, List.take_zero, List.drop_succ_cons, List.drop_zero]
    repeat still_step
    still_call (leftN_q _ 12 _ (by omega) (by omega))
    repeat still_step
    refine wpStill_nil ?_
    go_wp2
    go_roundw
    case rel =>
     refine ⟨1 + 1, by omega, by simp, ?_⟩
     rw [HQ.out, HE.out]
     exact ⟨(HR2.out.1.set_ b (rotl32 (Z ^^^ (X + Y)) 12)).drew, (HR2.out.2.1.setCell HG.out.1 _).drew, (HR2.out.2.2.far (fun e => by have e' : w1.heap.size = g := e; exact absurd e' (Nat.ne_of_gt HG.out.2)) _).drew⟩
    case measure => simp [intOf]; omega
   ·rw [show k = 2 by omega] at hR
    obtain ⟨hown, hbel, hbk⟩ := hR
    have hkc : wr.cell? ⟨w1.heap.size, 2, none⟩ = some (.int .i64 8) := hbk.cell 2
    have hq : qs l a b c d (2 + 1) = qsE (qs l a b c d 2) a b d 8 := rfl
    obtain ⟨m, hm⟩ : ∃ m, m = qs l a b c d 2 := ⟨_, rfl⟩
    have hml : m.length = 16 := by rw [hm, length_qs, HL.out]
    rw [← hm] at hown hq
    have HQ := hid hq
    have HML := hid hml
    clear hq hm
    rw [← hml] at hown
    have cx := hown.cell 0 a (by omega)
    have cy := hown.cell 0 b (by omega)
    have cz := hown.cell 0 d (by omega)
    have fx := hown.frozen a
    have fz := hown.frozen d
    rw [hml] at hown
    obtain ⟨X, hX⟩ : ∃ x, x = m.getD a 0 := ⟨_, rfl⟩
    obtain ⟨Y, hY⟩ : ∃ x, x = m.getD b 0 := ⟨_, rfl⟩
    obtain ⟨Z, hZ⟩ : ∃ x, x = m.getD d 0 := ⟨_, rfl⟩
    rw [← hX] at cx
    rw [← hY] at cy
    rw [← hZ] at cz
    have hE : qsE m a b d 8 = (m.set a (X + Y)).set d (rotl32 (Z ^^^ (X + Y)) 8) := by rw [qsE, ← hX, ← hY, ← hZ]
    have HE := hid hE
    have hadd := add_w64 X Y
    have hxor := xor_w64 Z (X + Y)
    have hle : (0 : Int) ≤ IntKind.u64.wrap (n32 X + n32 Y) := by have := n32_nonneg X; have := n32_nonneg Y; rw [wrap_u64]; omega
    have hkl : ((k : Int)) = 2 := by omega
    have hRR : QRel w (.slice (some ⟨g, 0, none⟩) 16 cap1) m w1.heap.size wr := ⟨hown, hbel, hbk⟩
    have HRR := hid hRR
    have HZ := hid hZ
    clear hX hY hZ hE hml hRR hown hbel hbk
    go_wp2
    go_region
    obtain ⟨w2, hw2⟩ : ∃ w2, w2 = (wr.setCell ⟨g, a, none⟩ (W64 (X + Y))).drew := ⟨_, rfl⟩
    have hR2 : QRel w (.slice (some ⟨g, 0, none⟩) 16 cap1) (m.set a (X + Y)) w1.heap.size w2 := by
     rw [hw2]
     exact ⟨(HRR.out.1.set_ a (X + Y)).drew, (HRR.out.2.1.setCell HG.out.1 _).drew, (HRR.out.2.2.far (fun e => by have e' : w1.heap.size = g := e; exact absurd e' (Nat.ne_of_gt HG.out.2)) _).drew⟩
    rw [← hw2]
    clear hw2 cx cy cz fx fz hadd hle HRR hkc
    have hml2 : (m.set a (X + Y)).length = 16 := by rw [List.length_set, HML.out]
    have hown2 := hR2.1
    rw [← hml2] at hown2
    have cz := hown2.cell 0 d (by rw [hml2]; omega)
    have cx := hown2.cell 0 a (by rw [hml2]; omega)
    have fz := hown2.frozen d
    rw [getD_set _ _ _ _ (by rw [HML.out]; omega), if_neg (by omega), ← HZ.out] at cz
    rw [getD_set _ _ _ _ (by rw [HML.out]; omega), if_pos rfl] at cx
    have HR2 := hid hR2
    clear hml2 hown2 hR2
    have hzi : (d : Int) < 16 := by omega
    have hxi : (a : Int) < 16 := by omega
    have hzp : (0 : Int) ≤ d := by omega
    have hxp : (0 : Int) ≤ a := by omega
    go_wp2
    refine region_tail' 13 (by kernel_rfl) (by kernel_rfl) ?_
    simp only [List.take_succ_cons, List.take_zero, List.drop_succ_cons, List.drop_zero]
    repeat still_step
    still_call (leftN_q _ 8 _ (by omega) (by omega))
    repeat still_step
    refine wpStill_nil ?_
    go_wp2
    go_roundw
    case rel =>
     refine ⟨2 + 1, by omega, by simp, ?_⟩
     rw [HQ.out, HE.out]
     exact ⟨(HR2.out.1.set_ d (rotl32 (Z ^^^ (X + Y)) 8)).drew, (HR2.out.2.1.setCell HG.out.1 _).drew, (HR2.out.2.2.far (fun e => by have e' : w1.heap.size = g := e; exact absurd e' (Nat.ne_of_gt HG.out.2)) _).drew⟩
    case measure => simp [intOf]; omega
   ·rw [show k = 3 by omega] at hR
    obtain ⟨hown, hbel, hbk⟩ := hR
    have hkc : wr.cell? ⟨w1.heap.size, 3, none⟩ = some (.int .i64 7) := hbk.cell 3
    have hq : qs l a b c d (3 + 1) = qsE (qs l a b c d 3) c d b 7 := rfl
    obtain ⟨m, hm⟩ : ∃ m, m = qs l a b c d 3 := ⟨_, rfl⟩
    have hml : m.length = 16 := by rw [hm, length_qs, HL.out]
    rw [← hm] at hown hq
    have HQ := hid hq
    have HML := hid hml
    clear hq hm
    rw [← hml] at hown
    have cx := hown.cell 0 c (by omega)
    have cy := hown.cell 0 d (by omega)
    have cz := hown.cell 0 b (by omega)
    have fx := hown.frozen c
    have fz := hown.frozen b
    rw [hml] at hown
    obtain ⟨X, hX⟩ : ∃ x, x = m.getD c 0 := ⟨_, rfl⟩
    obtain ⟨Y, hY⟩ : ∃ x, x = m.getD d 0 := ⟨_, rfl⟩
    obtain ⟨Z, hZ⟩ : ∃ x, x = m.getD b 0 := ⟨_, rfl⟩
    rw [← hX] at cx
    rw [← hY] at cy
    rw [← hZ] at cz
    have hE : qsE m c d b 7 = (m.set c (X + Y)).set b (rotl32 (Z ^^^ (X + Y)) 7) := by rw [qsE, ← hX, ← hY, ← hZ]
    have HE := hid hE
    have hadd := add_w64 X Y
    have hxor := xor_w64 Z (X + Y)
    have hle : (0 : Int) ≤ IntKind.u64.wrap (n32 X + n32 Y) := by have := n32_nonneg X; have := n32_nonneg Y; rw [wrap_u64]; omega
    have hkl : ((k : Int)) = 3 := by omega
    have hRR : QRel w (.slice (some ⟨g, 0, none⟩) 16 cap1) m w1.heap.size wr := ⟨hown, hbel, hbk⟩
    have HRR := hid hRR
    have HZ := hid hZ
    clear hX hY hZ hE hml hRR hown hbel hbk
    go_wp2
    go_region
    obtain ⟨w2, hw2⟩ : ∃ w2, w2 = (wr.setCell ⟨g, c, none⟩ (W64 (X + Y))).drew := ⟨_, rfl⟩
    have hR2 : QRel w (.slice (some ⟨g, 0, none⟩) 16 cap1) (m.set c (X + Y)) w1.heap.size w2 := by
     rw [hw2]
     exact ⟨(HRR.out.1.set_ c (X + Y)).drew, (HRR.out.2.1.setCell HG.out.1 _).drew, (HRR.out.2.2.far (fun e => by have e' : w1.heap.size = g := e; exact absurd e' (Nat.ne_of_gt HG.out.2)) _).drew⟩
    rw [← hw2]
    clear hw2 cx cy cz fx fz hadd hle HRR hkc
    have hml2 : (m.set c (X + Y)).length = 16 := by rw [List.length_set, HML.out]
    have hown2 := hR2.1
    rw [← hml2] at hown2
    have cz := hown2.cell 0 b (by rw [hml2]; omega)
    have cx := hown2.cell 0 c (by rw [hml2]; omega)
    have fz := hown2.frozen b
    rw [getD_set _ _ _ _ (by rw [HML.out]; omega), if_neg (by omega), ← HZ.out] at cz
    rw [getD_set _ _ _ _ (by rw [HML.out]; omega), if_pos rfl] at cx
    have HR2 := hid hR2
    clear hml2 hown2 hR2
    have hzi : (b : Int) < 16 := by omega
    have hxi : (c : Int) < 16 := by omega
    have hzp : (0 : Int) ≤ b := by omega
    have hxp : (0 : Int) ≤ c := by omega
    go_wp2
    refine region_tail' 13 (by kernel_rfl) (by kernel_rfl) ?_
    simp only [List.take_succ_cons, List.take_zero, List.drop_succ_cons, List.drop_zero]
    repeat still_step
    still_call (leftN_q _ 7 _ (by omega) (by omega))
    repeat still_step
    refine wpStill_nil ?_
    go_wp2
    go_roundw
    case rel =>
     refine ⟨3 + 1, by omega, by simp, ?_⟩
     rw [HQ.out, HE.out]
     exact ⟨(HR2.out.1.set_ b (rotl32 (Z ^^^ (X + Y)) 7)).drew, (HR2.out.2.1.setCell HG.out.1 _).drew, (HR2.out.2.2.far (fun e => by have e' : w1.heap.size = g := e; exact absurd e' (Nat.ne_of_gt HG.out.2)) _).drew⟩
    case measure => simp [intOf]; omega
  ·rw [show k = 4 by omega, HF.out] at hR
   have hd : decide ((k : Int) < 4) = false := by simp; omega
   go_wp2
   go_ret
   exact ⟨_, rfl, hR.1, hR.2.1⟩
end Go.Proofs.YtdmlpblaelfdmaaGreatDoor
namespace Go.Proofs.YtdmlpblaelfdmaaGreatDoor
open Go.RowKit

theorem refQ0_any (V : Value) (l : List UInt32) (w : World) (hV : Own w 0 25 W64 V (dbl l 0)) (hl : l.length = 16) :
    Calls Tryz.prog 152 #[V, .int .i64 0, .int .i64 4, .int .i64 8, .int .i64 12] w fun e w' => ∃ V', e = .returned V' ∧ Own w' w.heap.size 25 W64 V' (dbl l 1) ∧ Below w.heap.size w w' :=
  refQuarter_any V (dbl l 0) 0 4 8 12 w hV (by rw [length_dbl, hl]) (by decide) (by decide) (by decide) (by decide) (by decide) (by decide) (by decide) (by decide) (by decide) (by decide)
theorem refQ1_any (V : Value) (l : List UInt32) (w : World) (hV : Own w 0 25 W64 V (dbl l 1)) (hl : l.length = 16) :
    Calls Tryz.prog 152 #[V, .int .i64 1, .int .i64 5, .int .i64 9, .int .i64 13] w fun e w' => ∃ V', e = .returned V' ∧ Own w' w.heap.size 25 W64 V' (dbl l 2) ∧ Below w.heap.size w w' :=
  refQuarter_any V (dbl l 1) 1 5 9 13 w hV (by rw [length_dbl, hl]) (by decide) (by decide) (by decide) (by decide) (by decide) (by decide) (by decide) (by decide) (by decide) (by decide)
theorem refQ2_any (V : Value) (l : List UInt32) (w : World) (hV : Own w 0 25 W64 V (dbl l 2)) (hl : l.length = 16) :
    Calls Tryz.prog 152 #[V, .int .i64 2, .int .i64 6, .int .i64 10, .int .i64 14] w fun e w' => ∃ V', e = .returned V' ∧ Own w' w.heap.size 25 W64 V' (dbl l 3) ∧ Below w.heap.size w w' :=
  refQuarter_any V (dbl l 2) 2 6 10 14 w hV (by rw [length_dbl, hl]) (by decide) (by decide) (by decide) (by decide) (by decide) (by decide) (by decide) (by decide) (by decide) (by decide)
theorem refQ3_any (V : Value) (l : List UInt32) (w : World) (hV : Own w 0 25 W64 V (dbl l 3)) (hl : l.length = 16) :
    Calls Tryz.prog 152 #[V, .int .i64 3, .int .i64 7, .int .i64 11, .int .i64 15] w fun e w' => ∃ V', e = .returned V' ∧ Own w' w.heap.size 25 W64 V' (dbl l 4) ∧ Below w.heap.size w w' :=
  refQuarter_any V (dbl l 3) 3 7 11 15 w hV (by rw [length_dbl, hl]) (by decide) (by decide) (by decide) (by decide) (by decide) (by decide) (by decide) (by decide) (by decide) (by decide)
theorem refQ4_any (V : Value) (l : List UInt32) (w : World) (hV : Own w 0 25 W64 V (dbl l 4)) (hl : l.length = 16) :
    Calls Tryz.prog 152 #[V, .int .i64 0, .int .i64 5, .int .i64 10, .int .i64 15] w fun e w' => ∃ V', e = .returned V' ∧ Own w' w.heap.size 25 W64 V' (dbl l 5) ∧ Below w.heap.size w w' :=
  refQuarter_any V (dbl l 4) 0 5 10 15 w hV (by rw [length_dbl, hl]) (by decide) (by decide) (by decide) (by decide) (by decide) (by decide) (by decide) (by decide) (by decide) (by decide)
theorem refQ5_any (V : Value) (l : List UInt32) (w : World) (hV : Own w 0 25 W64 V (dbl l 5)) (hl : l.length = 16) :
    Calls Tryz.prog 152 #[V, .int .i64 1, .int .i64 6, .int .i64 11, .int .i64 12] w fun e w' => ∃ V', e = .returned V' ∧ Own w' w.heap.size 25 W64 V' (dbl l 6) ∧ Below w.heap.size w w' :=
  refQuarter_any V (dbl l 5) 1 6 11 12 w hV (by rw [length_dbl, hl]) (by decide) (by decide) (by decide) (by decide) (by decide) (by decide) (by decide) (by decide) (by decide) (by decide)
theorem refQ6_any (V : Value) (l : List UInt32) (w : World) (hV : Own w 0 25 W64 V (dbl l 6)) (hl : l.length = 16) :
    Calls Tryz.prog 152 #[V, .int .i64 2, .int .i64 7, .int .i64 8, .int .i64 13] w fun e w' => ∃ V', e = .returned V' ∧ Own w' w.heap.size 25 W64 V' (dbl l 7) ∧ Below w.heap.size w w' :=
  refQuarter_any V (dbl l 6) 2 7 8 13 w hV (by rw [length_dbl, hl]) (by decide) (by decide) (by decide) (by decide) (by decide) (by decide) (by decide) (by decide) (by decide) (by decide)
theorem refQ7_any (V : Value) (l : List UInt32) (w : World) (hV : Own w 0 25 W64 V (dbl l 7)) (hl : l.length = 16) :
    Calls Tryz.prog 152 #[V, .int .i64 3, .int .i64 4, .int .i64 9, .int .i64 14] w fun e w' => ∃ V', e = .returned V' ∧ Own w' w.heap.size 25 W64 V' (dbl l 8) ∧ Below w.heap.size w w' :=
  refQuarter_any V (dbl l 7) 3 4 9 14 w hV (by rw [length_dbl, hl]) (by decide) (by decide) (by decide) (by decide) (by decide) (by decide) (by decide) (by decide) (by decide) (by decide)
theorem sigma_words : leWords (ByteArray.mk #[101, 120, 112, 97, 110, 100, 32, 51, 50, 45, 98, 121, 116, 101, 32, 107]).data.toList 4 = sigma := by decide
theorem infoU8 : (Tryz.prog.info? 5).map (fun i => (i.zero, i.size, i.bytes)) = some (some (.int .u8 0), 1, 1) := by kernel_rfl
theorem byteL_ref (y : UInt32) : IntKind.u8.wrap (n32 y % 256) = n8 (byteL y 0) ∧ IntKind.u8.wrap (n32 y / 256 % 256) = n8 (byteL y 1) ∧ IntKind.u8.wrap (n32 y / 65536 % 256) = n8 (byteL y 2) ∧ IntKind.u8.wrap (n32 y / 16777216) = n8 (byteL y 3) := by
  have h : ∀ k, k < 4 → n8 (byteL y k) = n32 y / 2 ^ (8 * k) % 256 := fun k hk => by rw [← byteL_eq y k hk, wrap_u8]
  have h0 := n32_nonneg y
  refine ⟨?_, ?_, ?_, ?_⟩
  · rw [h 0 (by omega), wrap_u8]; simp
  · rw [h 1 (by omega), wrap_u8]; simp
  · rw [h 2 (by omega), wrap_u8]; simp
  · rw [h 3 (by omega), wrap_u8]; simp
def BRf (w : World) (V at_ : Value) (l m : List UInt32) (wr : World) : Prop := Own wr w.heap.size 25 W64 V m ∧ Own wr w.heap.size 25 W64 at_ l ∧ Below w.heap.size w wr
def BOut (w : World) (gx cx ga ca : Nat) (l : List UInt32) (j : Nat) (V : Value) (wx : World) : Prop :=
  Own wx w.heap.size 5 U8 V (outBytes ((cSums l).take j)) ∧ Own wx w.heap.size 25 W64 (.slice (some ⟨gx, 0, none⟩) 16 cx) (rnds l 10) ∧ Own wx w.heap.size 25 W64 (.slice (some ⟨ga, 0, none⟩) 16 ca) l ∧ Below w.heap.size w wx
set_option maxHeartbeats 1000000 in
set_option maxRecDepth 100000 in
theorem refCblock_any (K N : ByteArray) (C : UInt32) (c : Int) (w : World) (hK : K.size = 32) (hN : N.size = 12) (h0 : 0 ≤ c) (hc : c % 4294967296 = n32 C) :
    Calls Tryz.prog 107 #[.string K, .int .u64 c, .string N] w fun e w' => e = .returned (.string ⟨(cBlock K.data.toList C N.data.toList).toArray⟩) ∧ Below w.heap.size w w' := by
  obtain ⟨i0, hi, hz0, hz1, hz2⟩ := info_parts infoU64
  obtain ⟨i8, hi8, hy0, hy1, hy2⟩ := info_parts infoU8
  have H8 := hid (And.intro hi8 (And.intro hy0 (And.intro hy1 hy2)))
  clear hi8 hy0 hy1 hy2
  have HC := hid hc
  clear hc
  go_enter Tryz.func107, Tryz.ntmps107
  go_wp2_with fail
  refine (words_any _ 4 w (by decide) (by omega)).mono ?_
  rintro e w1 ⟨V1, rfl, ho1, hb1⟩
  rw [sigma_words] at ho1
  go_wp2_with fail
  refine (words_any K 8 w1 (by rw [hK]) (by omega)).mono ?_
  rintro e w2 ⟨V2, rfl, ho2, hb2⟩
  have ho1b := ho1.below hb2 (Nat.le_refl _)
  have hbel2 : Below w.heap.size w w2 := hb1.trans (hb2.mono hb1.size)
  obtain ⟨V3, w3, hrun, ho3, hg3⟩ := run_append_rows (P := Tryz.prog) w2 w.heap.size w1.heap.size 203 203 25 i0 _ 8 W64 (fun _ => rfl) Tryz.underlying203 hi hz0 hz1 hz2 rfl V1 V2 sigma (leWords K.data.toList 8) ho1b ho2 (by rw [length_leWords]; decide) (by omega) hbel2.size
  have hbel3 : Below w.heap.size w w3 := hbel2.trans (ho1b.below_of hg3 hbel2.size)
  have HR := hid hrun
  clear hrun ho1 ho2 ho1b hb1 hb2 hg3 hbel2
  have hl3 := length_leWords K.data.toList 8
  have hs3 := hbel3.size
  have HCW : Hid (Value.int .u64 (c % 4294967296) = W64 C) := hid (by rw [HC.out])
  go_wp2_with (first
    | (at_builtin; refine Lib.wpList_append_run _ rfl (.tmp 13) (.tmp 15) _ _ rfl _ _ rfl rfl _ _ HR.out ?_)
    | (at_builtin; refine wpList_append_lit rfl (.tmp 17) (.tmp 20) 203 rfl w.heap.size 25 i0 _ 8 W64 (fun _ => rfl) Tryz.underlying203 hi hz0 hz1 hz2 rfl (by omega) _ _ [C] 1 rfl rfl (ho3.alloc _) _ 0 1 rfl (new_lit _ _ _ _ (by rw [HCW.out]; rfl)) (by simp [hl3, sigma]) (by simp <;> omega) ?_
       intro V4 w4 ho4 _ hb4))
  have hbel4 : Below w.heap.size w w4 := (hbel3.alloc hs3 _).trans hb4
  clear hb4 HR ho3 hbel3
  refine (words_any N 3 w4 (by rw [hN]) (by omega)).mono ?_
  rintro e w5 ⟨V5, rfl, ho5, hb5⟩
  have ho4b := ho4.below hb5 (Nat.le_refl _)
  have hbel5 : Below w.heap.size w w5 := hbel4.trans (hb5.mono hbel4.size)
  obtain ⟨V6, w6, hrun, ho6, hg6⟩ := run_append_rows (P := Tryz.prog) w5 w.heap.size w4.heap.size 203 203 25 i0 _ 8 W64 (fun _ => rfl) Tryz.underlying203 hi hz0 hz1 hz2 rfl V4 V5 _ (leWords N.data.toList 3) ho4b ho5 (by simp [length_leWords, sigma]) (by omega) hbel5.size
  have hbel6 : Below w.heap.size w w6 := hbel5.trans (ho4b.below_of hg6 hbel5.size)
  have HR := hid hrun
  obtain ⟨l, hl0⟩ : ∃ l, l = cInit K.data.toList C N.data.toList := ⟨_, rfl⟩
  rw [show sigma ++ leWords K.data.toList 8 ++ [C] ++ leWords N.data.toList 3 = l from hl0.symm] at ho6
  have hl : l.length = 16 := by rw [hl0, length_cInit]
  have hout : cBlock K.data.toList C N.data.toList = outBytes (cSums l) := by rw [cBlock, hl0]
  have HOUT := hid hout
  have HL := hid hl
  clear hrun ho4 ho5 ho4b hb5 hg6 hbel5 hbel4 hl3 hs3 hl0 hout hl
  go_wp2_with (at_builtin; refine Lib.wpList_append_run _ rfl (.tmp 22) (.tmp 24) _ _ rfl _ _ rfl rfl _ _ HR.out ?_)
  clear hi hz0 hz1 hz2 hK hN h0
  have hK0 : BRf w V6 V6 l (rnds l 0) w6 := ⟨ho6, ho6, hbel6⟩
  clear ho6 hbel6 HR
  go_loopw [8, 9] (fun V i wr => ∃ k : Nat, k ≤ 10 ∧ i = .int .i64 k ∧ BRf w V V6 l (rnds l k) wr) (fun _ i _ => 10 - (intOf i).toNat)
  case atStart => exact ⟨0, Nat.zero_le _, rfl, hK0⟩
  case round =>
    clear hK0
    obtain ⟨k, hk, rfl, hR⟩ := hrel
    by_cases hlt : k < 10
    · obtain ⟨hv0, hat, hbel⟩ := hR
      have hml : (rnds l k).length = 16 := by rw [length_rnds, HL.out]
      obtain ⟨m, hm⟩ : ∃ m, m = rnds l k := ⟨_, rfl⟩
      have hnx : rnds l (k + 1) = dbl m 8 := by rw [rnds, hm]
      rw [← hm] at hv0 hml
      have HNX := hid hnx
      have HML := hid hml
      clear hm hnx hml
      have hv0' : Own wr w.heap.size 25 W64 _ (dbl m 0) := hv0
      clear hv0
      have hd : decide ((k : Int) < 10) = true := by simp; omega
      go_wp2_with fail
      refine (refQ0_any _ m _ (hv0'.mono (Nat.zero_le _)) HML.out).mono ?_
      rintro e z1 ⟨Z1, rfl, hv1, hbz1⟩
      have hat1 := hat.below hbz1 (Nat.le_refl _)
      have hbel1 := hbel.trans (hbz1.mono hbel.size)
      have _hsz1 := hbel.size
      clear hv0' hat hbel hbz1
      go_wp2_with fail
      refine (refQ1_any _ m _ (hv1.mono (Nat.zero_le _)) HML.out).mono ?_
      rintro e z2 ⟨Z2, rfl, hv2, hbz2⟩
      have hat2 := hat1.below hbz2 (Nat.le_refl _)
      have hbel2 := hbel1.trans (hbz2.mono hbel1.size)
      have _hsz2 := hbel1.size
      clear hv1 hat1 hbel1 hbz2
      go_wp2_with fail
      refine (refQ2_any _ m _ (hv2.mono (Nat.zero_le _)) HML.out).mono ?_
      rintro e z3 ⟨Z3, rfl, hv3, hbz3⟩
      have hat3 := hat2.below hbz3 (Nat.le_refl _)
      have hbel3 := hbel2.trans (hbz3.mono hbel2.size)
      have _hsz3 := hbel2.size
      clear hv2 hat2 hbel2 hbz3
      go_wp2_with fail
      refine (refQ3_any _ m _ (hv3.mono (Nat.zero_le _)) HML.out).mono ?_
      rintro e z4 ⟨Z4, rfl, hv4, hbz4⟩
      have hat4 := hat3.below hbz4 (Nat.le_refl _)
      have hbel4 := hbel3.trans (hbz4.mono hbel3.size)
      have _hsz4 := hbel3.size
      clear hv3 hat3 hbel3 hbz4
      go_wp2_with fail
      refine (refQ4_any _ m _ (hv4.mono (Nat.zero_le _)) HML.out).mono ?_
      rintro e z5 ⟨Z5, rfl, hv5, hbz5⟩
      have hat5 := hat4.below hbz5 (Nat.le_refl _)
      have hbel5 := hbel4.trans (hbz5.mono hbel4.size)
      have _hsz5 := hbel4.size
      clear hv4 hat4 hbel4 hbz5
      go_wp2_with fail
      refine (refQ5_any _ m _ (hv5.mono (Nat.zero_le _)) HML.out).mono ?_
      rintro e z6 ⟨Z6, rfl, hv6, hbz6⟩
      have hat6 := hat5.below hbz6 (Nat.le_refl _)
      have hbel6 := hbel5.trans (hbz6.mono hbel5.size)
      have _hsz6 := hbel5.size
      clear hv5 hat5 hbel5 hbz6
      go_wp2_with fail
      refine (refQ6_any _ m _ (hv6.mono (Nat.zero_le _)) HML.out).mono ?_
      rintro e z7 ⟨Z7, rfl, hv7, hbz7⟩
      have hat7 := hat6.below hbz7 (Nat.le_refl _)
      have hbel7 := hbel6.trans (hbz7.mono hbel6.size)
      have _hsz7 := hbel6.size
      clear hv6 hat6 hbel6 hbz7
      go_wp2_with fail
      refine (refQ7_any _ m _ (hv7.mono (Nat.zero_le _)) HML.out).mono ?_
      rintro e z8 ⟨Z8, rfl, hv8, hbz8⟩
      have hat8 := hat7.below hbz8 (Nat.le_refl _)
      have hbel8 := hbel7.trans (hbz8.mono hbel7.size)
      have hsz8 := hbel7.size
      clear hv7 hat7 hbel7 hbz8
      go_wp2
      go_roundw
      case rel => exact ⟨k + 1, by omega, by go_num, by rw [HNX.out]; exact ⟨hv8.mono hsz8, hat8, hbel8⟩⟩
      case measure => simp [intOf]; omega
    · have hd : decide ((k : Int) < 10) = false := by simp; omega
      rw [show k = 10 by omega] at hR
      obtain ⟨hv, hat, hbel⟩ := hR
      have hml : (rnds l 10).length = 16 := by rw [length_rnds, HL.out]
      have hsz := hbel.size
      rcases hv.form with ⟨_, e⟩ | ⟨gx, cx, rfl, hgx, hgx2, _, _⟩
      · rw [e] at hml; exact absurd hml (by decide)
      rcases hat.form with ⟨_, e⟩ | ⟨ga, ca, rfl, hga, hga2, _, _⟩
      · have := HL.out; rw [e] at this; exact absurd this (by decide)
      have HML := hid hml
      rw [hml] at hv ⊢
      clear hml
      have hlen := HL.out
      rw [hlen] at hat ⊢
      clear hlen
      have hone : Own (wr.alloc (.cells #[] 5)) w.heap.size 5 U8 (.slice (some ⟨wr.heap.size, 0, none⟩) 0 0) (outBytes ((cSums l).take 0)) := Own.new (α := UInt8) wr w.heap.size 5 U8 [] hsz (Nat.zero_le _)
      go_wp2
      go_loopw [10, 11, 50] (fun V _ i wx => ∃ j : Nat, j ≤ 16 ∧ i = .int .i64 j ∧ BOut w gx cx ga ca l j V wx) (fun _ _ i _ => 16 - (intOf i).toNat)
      case atStart => exact ⟨0, Nat.zero_le _, rfl, hone, hv.alloc _, hat.alloc _, hbel.alloc hsz _⟩
      case round =>
        clear hone hv hat hbel hsz
        obtain ⟨j, hj, rfl, ho, hv, hat, hbel⟩ := hrel
        by_cases hlt2 : j < 16
        · have hd2 : decide ((j : Int) < 16) = true := by simp; omega
          have cv := Own.cell (l := rnds l 10) (by rw [HML.out]; exact hv) 0 j (by rw [HML.out]; exact hlt2)
          have ca := Own.cell (l := l) (by rw [HL.out]; exact hat) 0 j (by rw [HL.out]; exact hlt2)
          have hjl : j < (cSums l).length := by rw [length_cSums, HL.out]; exact hlt2
          have hsum : (cSums l).getD j 0 = (rnds l 10).getD j 0 + l.getD j 0 := cSums_get l j (by rw [HL.out]; omega)
          have hnx := outBytes_succ (cSums l) j hjl
          have hge : (cSums l)[j] = (cSums l).getD j 0 := by rw [List.getD_eq_getElem?_getD, List.getElem?_eq_getElem hjl]; rfl
          rw [hge, hsum] at hnx
          obtain ⟨X, hX⟩ : ∃ x, x = (rnds l 10).getD j 0 := ⟨_, rfl⟩
          obtain ⟨Y, hY⟩ : ∃ x, x = l.getD j 0 := ⟨_, rfl⟩
          rw [← hX] at cv hnx
          rw [← hY] at ca hnx
          have hol : (outBytes ((cSums l).take j)).length = 4 * j := by rw [length_outBytes, List.length_take]; omega
          have HOL := hid hol
          have HNX := hid hnx
          have hadd := add_w64 X Y
          obtain ⟨y0, y1, y2, y3⟩ := byteL_ref (X + Y)
          have hp := n32_nonneg (X + Y)
          have hle : (0 : Int) ≤ IntKind.u64.wrap (n32 X + n32 Y) := by have := n32_nonneg X; have := n32_nonneg Y; rw [wrap_u64]; omega
          have hji : (j : Int) < 16 := by omega
          have hjp : (0 : Int) ≤ j := by omega
          have hsz := hbel.size
          clear hX hY hge hsum hnx hol
          go_wp2
          go_quiet (fail)
          go_wp2_with (at_builtin; refine wpList_append_lit rfl (.tmp 63) (.tmp 78) 33 rfl w.heap.size 5 _ _ 1 U8 (fun _ => rfl) Tryz.underlying33 H8.out.1 H8.out.2.1 H8.out.2.2.1 H8.out.2.2.2 rfl (by omega) _ _ (wordBytes (X + Y)) 4 rfl rfl ((ho.drewN _).alloc _) _ 0 4 rfl (new_lit _ _ _ _ rfl) (by rw [HOL.out]; omega) (by simp <;> omega) ?_
                       intro V2 wz ho2 hg2 hbz)
          have hv2 := ((hv.drewN _).alloc _).grown hg2 (hv.apart ho (by decide))
          have hat2 := ((hat.drewN _).alloc _).grown hg2 (hat.apart ho (by decide))
          have hbel2 := ((below_drewN hbel _).alloc hsz _).trans hbz
          clear hg2 hbz hv hat hbel ho
          go_roundw
          case rel => exact ⟨j + 1, by omega, by go_num, by rw [HNX.out]; exact ho2, hv2, hat2, hbel2⟩
          case measure => simp [intOf]; omega
        · have hd2 : decide ((j : Int) < 16) = false := by simp; omega
          rw [show j = 16 by omega, List.take_of_length_le (by rw [length_cSums, HL.out]; omega)] at ho
          have hol : (outBytes (cSums l)).length = 64 := by rw [length_outBytes, length_cSums, HL.out]
          rcases ho.form with ⟨_, e⟩ | ⟨gz, cz, rfl, _, _, _, _⟩
          · rw [e] at hol; exact absurd hol (by decide)
          rw [hol] at ho ⊢
          have HOL := hid hol
          have hby : Bytes wr gz 0 (outBytes (cSums l)) := fun j hj => by
            have := ho.cells (g := gz) rfl j (U8 ((outBytes (cSums l))[j])) (by simp [hj])
            rw [addr_add] at this
            rw [Nat.zero_add]
            exact this
          clear hol hv hat
          go_wp2_with (refine wpList_string_of _ rfl 33 9 5 (.tmp 81) rfl Tryz.underlying33 Tryz.underlying5 Tryz.underlying9 gz 0 64 cz (outBytes (cSums l)) rfl HOL.out hby ?_)
          go_ret
          exact ⟨by rw [HOUT.out]; rfl, hbel⟩
end Go.Proofs.YtdmlpblaelfdmaaGreatDoor
namespace Go.Proofs.YtdmlpblaelfdmaaGreatDoor
open Go.RowKit
theorem run_string_own {P : Program} {w : World} {base : Nat} {v : Value} {l : List UInt8} (s d e : TypeId) (h : Own w base e U8 v l) (hs : P.underlying s = some (.slice e)) (he : P.underlying e = some (.int .u8)) (hd : P.underlying d = some .string) :
    (convert s d v).run P w = .ok (.string ⟨l.toArray⟩) w := by
  rcases h.form with ⟨rfl, rfl⟩ | ⟨g, cap, rfl, _⟩
  · exact run_convert_bytes_nil w s e hs he 0 0 d hd
  · exact run_convert_bytes_back w s d e _ cap l hs he hd (cells_of_bytes h.bytes)
theorem wpList_string_own {P : Program} {w : World} {ops : Array Oper} {rest : List Oper} {o : Oper} {a : Act} {Q : Exit → Act → World → Prop} (hgd : o.guard = none) (s d e : TypeId) (x : Operand)
    (ho : o.op = .convert s d x) (hs : P.underlying s = some (.slice e)) (he : P.underlying e = some (.int .u8)) (hd : P.underlying d = some .string) (base : Nat) (v : Value) (l : List UInt8) (hown : Own w base e U8 v l) (hx : a.eval x = v)
    (h : wpList P ops Q rest (a.put o.dst (.string ⟨l.toArray⟩)) w) : wpList P ops Q (o :: rest) a w :=
  wpList_convert_run w hgd s d x ho v hx _ _ (run_string_own s d e hown hs he hd) h
end Go.Proofs.YtdmlpblaelfdmaaGreatDoor
namespace Go.Proofs.YtdmlpblaelfdmaaGreatDoor
open Go.RowKit

def XR (w : World) (K N S : ByteArray) (C : UInt32) (n : Nat) (V b i : Value) (wr : World) : Prop :=
  ∃ (j : Nat) (B : List UInt8), j ≤ n ∧ i = .int .i64 j ∧ b = .string ⟨B.toArray⟩ ∧ Own wr w.heap.size 5 U8 V ((cXor K.data.toList C N.data.toList S.data.toList).take j) ∧ Below w.heap.size w wr ∧ (j = 0 ∨ B = cBlock K.data.toList (C + UInt32.ofNat ((j - 1) / 64)) N.data.toList)
theorem cXor_take (key nonce s : List UInt8) (C : UInt32) (i : Nat) (h : i < s.length) : (cXor key C nonce s).take (i + 1) = (cXor key C nonce s).take i ++ [s.getD i 0 ^^^ (cBlock key (C + UInt32.ofNat (i / 64)) nonce).getD (i % 64) 0] := by
  have h2 : i < (cXor key C nonce s).length := by rw [length_cXor]; exact h
  have e := get_cXor key C nonce s i h
  rw [List.getElem?_eq_getElem h2] at e
  rw [List.take_succ_eq_append_getElem h2, Option.some.inj e, List.getD_eq_getElem?_getD (l := s), List.getElem?_eq_getElem h]
  rfl
set_option maxHeartbeats 1000000 in
set_option maxRecDepth 100000 in
theorem refCxor_any (K N S : ByteArray) (C : UInt32) (w : World) (hK : K.size = 32) (hN : N.size = 12) (hS : S.size ≤ 1000000) :
  Calls Tryz.prog 71 #[.string K, .int .u64 (n32 C), .string N, .string S] w fun e w' => e = .returned (.string ⟨(cXor K.data.toList C N.data.toList S.data.toList).toArray⟩) ∧ Below w.heap.size w w' := by
 obtain ⟨i8, hi8, hy0, hy1, hy2⟩ := info_parts infoU8
 have H8 := hid (And.intro hi8 (And.intro hy0 (And.intro hy1 hy2)))
 clear hi8 hy0 hy1 hy2
 have HK := hid hK
 have HN := hid hN
 clear hK hN
 go_enter Tryz.func71, Tryz.ntmps71
 have hone : Own (w.alloc (.cells #[] 5)) w.heap.size 5 U8 (.slice (some ⟨w.heap.size, 0, none⟩) 0 0) ((cXor K.data.toList C N.data.toList S.data.toList).take 0) := Own.new (α := UInt8) w w.heap.size 5 U8 [] (Nat.le_refl _) (Nat.zero_le _)
 go_wp2
 go_loopw [9, 10, 11] (fun V b i wr => XR w K N S C S.size V b i wr) (fun _ _ i _ => S.size - (intOf i).toNat)
 case atStart => exact ⟨0, [], Nat.zero_le _, rfl, rfl, hone, (Below.refl _ _).alloc (Nat.le_refl _) _, Or.inl rfl⟩
 case round =>
  clear hone
  obtain ⟨i, B0, hi, rfl, rfl, hown, hbel, hor⟩ := hrel
  by_cases hlt : i < S.size
  ·have hd : decide ((i : Int) < (S.size : Int)) = true := by simp; omega
   have hnx := cXor_take K.data.toList N.data.toList S.data.toList C i hlt
   have hln : ((cXor K.data.toList C N.data.toList S.data.toList).take i).length = i := by rw [List.length_take, length_cXor]; exact Nat.min_eq_left hi
   have HLN := hid hln
   have hbx := byte_at S i hlt
   obtain ⟨x, hx⟩ : ∃ x, x = S.data.toList.getD i 0 := ⟨_, rfl⟩
   rw [← hx] at hnx hbx
   have hi0 : (0 : Int) ≤ i := by omega
   have hi1 : (i : Int) < S.size := by omega
   have htm : (i : Int).tmod 64 = (i : Int) % 64 := Int.tmod_eq_emod_of_nonneg (by omega)
   have hm0 : (0 : Int) ≤ (i : Int).tmod 64 := by rw [htm]; omega
   by_cases h64 : i % 64 = 0
   ·have ht : ((i : Int) % 64 == 0) = true := by simp; omega
    have hq : IntKind.u64.wrap ((i : Int) / 64) = (i : Int) / 64 := by rw [wrap_u64]; omega
    have hc0 := n32_nonneg C
    have hc1 := n32_lt C
    have hs : IntKind.u64.wrap (n32 C + (i : Int) / 64) = n32 C + (i : Int) / 64 := by rw [wrap_u64]; omega
    have hc : (n32 C + (i : Int) / 64) % 4294967296 = n32 (C + UInt32.ofNat (i / 64)) := by
     rw [← add_n32', ← lit_n32 _ (by omega)]; omega
    have HNX0 := hid hnx
    have HX := hid hx
    have HBX := hid hbx
    have HCC := hid hc
    clear hnx hx hbx hln hor hc
    go_wp2_with fail
    refine (refCblock_any K N (C + UInt32.ofNat (i / 64)) _ wr HK.out HN.out (by omega) HCC.out).mono ?_
    rintro e w1 ⟨rfl, hb1⟩
    have hown1 := hown.below hb1 (Nat.le_refl _)
    have hbel1 := hbel.trans (hb1.mono hbel.size)
    obtain ⟨B, hB⟩ : ∃ B, B = cBlock K.data.toList (C + UInt32.ofNat (i / 64)) N.data.toList := ⟨_, rfl⟩
    rw [← hB]
    have hnx := HNX0.out
    rw [← hB] at hnx
    have hBl : (ByteArray.mk B.toArray).size = 64 := by show B.toArray.size = 64; rw [List.size_toArray, hB, length_cBlock]
    have hbyl : i % 64 < (ByteArray.mk B.toArray).size := by rw [hBl]; omega
    have hby := byte_at ⟨B.toArray⟩ (i % 64) hbyl
    obtain ⟨y, hy⟩ : ∃ y, y = B.getD (i % 64) 0 := ⟨_, rfl⟩
    rw [← hy] at hnx
    have HB := hid (show B = cBlock K.data.toList (C + UInt32.ofNat (i / 64)) N.data.toList from hB)
    have HNX := hid hnx
    have hbz : (i : Int).tmod 64 < (B.length : Int) := by rw [htm, hB, length_cBlock]; omega
    have HV : Hid (∀ g0 g1, Value.int .u8 (bits .xor .u8 ((S[i]'g0).toNat : Int) (((ByteArray.mk B.toArray)[((i : Int).tmod 64).toNat]'g1).toNat : Int)) = U8 (x ^^^ y)) := hid (by
     intro g0 g1
     have t1 : ((i : Int).tmod 64).toNat = i % 64 := by rw [htm]; omega
     have e1 : ((S[i]'g0).toNat : Int) = n8 x := HBX.out
     have e2 : (((ByteArray.mk B.toArray)[((i : Int).tmod 64).toNat]'g1).toNat : Int) = n8 y := by
      simp only [t1, hby, hy]
     rw [e1, e2, xor_n8])
    clear hnx hB hy hby hBl htm hown hbel hb1 HNX0 ht hq hs hc0 hc1
    go_wp2
    refine wp_region_held_drew (S := fun _ => True) (by kernel_rfl) trivial (fun hHeldw => ?_)
    refine wpAnyH_take (i := 0) (oi := _) (v := ?vw0) rfl (by kernel_rfl) (by kernel_rfl) (by kernel_rfl) (fun _ _ _ h => h) (Or.inl ⟨by rfl, ?hyw0⟩) hHeldw ?_
    case hyw0 => (intro w hSw; go_simp; rfl)
    try simp only [Act.put]
    refine wpAnyH_take (i := 1) (oi := _) (v := ?vw1) rfl (by kernel_rfl) (by kernel_rfl) (by kernel_rfl) (fun _ _ _ h => h) (Or.inl ⟨by rfl, ?hyw1⟩) hHeldw ?_
    case hyw1 => (intro w hSw; go_simp; rfl)
    try simp only [Act.put]
    refine wpAnyH_take (i := 2) (oi := _) (v := ?vw2) rfl (by kernel_rfl) (by kernel_rfl) (by kernel_rfl) (fun _ _ _ h => h) (Or.inl ⟨by rfl, ?hyw2⟩) hHeldw ?_
    case hyw2 => (intro w hSw; go_simp; rfl)
    try simp only [Act.put]
    refine wpAnyH_take (i := 3) (oi := _) (v := ?vw3) rfl (by kernel_rfl) (by kernel_rfl) (by kernel_rfl) (fun _ _ _ h => h) (Or.inl ⟨by rfl, ?hyw3⟩) hHeldw ?_
    case hyw3 => (intro w hSw; go_simp; rfl)
    try simp only [Act.put]
    refine wpAnyH_take (i := 4) (oi := _) (v := ?vw4) rfl (by kernel_rfl) (by kernel_rfl) (by kernel_rfl) (fun _ _ _ h => h) (Or.inl ⟨by rfl, ?hyw4⟩) hHeldw ?_
    case hyw4 => (intro w hSw; go_simp; rfl)
    try simp only [Act.put]
    refine wpAnyH_take (i := 5) (oi := _) (v := ?vw5) rfl (by kernel_rfl) (by kernel_rfl) (by kernel_rfl) (fun _ _ _ h => h) (Or.inl ⟨by rfl, ?hyw5⟩) hHeldw ?_
    case hyw5 => (intro w hSw; go_simp; rfl)
    try simp only [Act.put]
    refine wpAnyH_take (i := 6) (oi := _) (v := ?vw6) rfl (by kernel_rfl) (by kernel_rfl) (by kernel_rfl) (fun _ _ _ h => h) (Or.inl ⟨by rfl, ?hyw6⟩) hHeldw ?_
    case hyw6 => (intro w hSw; go_simp; rfl)
    try simp only [Act.put]
    refine wpAnyH_take (i := 7) (oi := _) (v := ?vw7) rfl (by kernel_rfl) (by kernel_rfl) (by kernel_rfl) (fun _ _ _ h => h) (Or.inl ⟨by rfl, ?hyw7⟩) hHeldw ?_
    case hyw7 => (intro w hSw; go_simp; rfl)
    try simp only [Act.put]
    refine wpAnyH_take (i := 8) (oi := _) (v := ?vw8) rfl (by kernel_rfl) (by kernel_rfl) (by kernel_rfl) (fun _ _ _ h => h) (Or.inl ⟨by rfl, ?hyw8⟩) hHeldw ?_
    case hyw8 => (intro w hSw; go_simp; rfl)
    try simp only [Act.put]
    refine wpAnyH_ready (rs := [9]) (by kernel_rfl) (by simp) ?_
    refine AllReadyH.cons (o := _) rfl (fun Kc hcont => ?_) AllReadyH.nil
    go_simp
    refine hcont.out _ _ trivial (fun hHeldw1 => ?_)
    clear hcont Kc
    refine wpAnyH_ready (rs := [10]) (by kernel_rfl) (by simp) ?_
    refine AllReadyH.cons (o := _) rfl (fun Kc hcont => ?_) AllReadyH.nil
    refine step_append_lit rfl (.tmp 30) (.tmp 39) 33 rfl w.heap.size 5 _ _ 1 U8 (fun _ => rfl) Tryz.underlying33 H8.out.1 H8.out.2.1 H8.out.2.2.1 H8.out.2.2.2 rfl (by omega) _ _ [x ^^^ y] 1 rfl rfl (hown1.drew.alloc _) _ 0 1 rfl (new_lit _ _ _ _ (by rw [HV.out]; rfl)) (by rw [HLN.out]; omega) (by simp <;> exact Nat.le_succ_of_le hbel1.size) ?_
    intro V2 wz hown2 _ hbz
    refine hcont.out _ _ trivial (fun hHeldw2 => ?_)
    clear hcont Kc
    refine wpAnyH_take (i := 11) (oi := _) (v := ?vw11) rfl (by kernel_rfl) (by kernel_rfl) (by kernel_rfl) (fun _ _ _ h => h) (Or.inl ⟨by rfl, ?hyw11⟩) hHeldw2 ?_
    case hyw11 => (intro w hSw; go_simp; rfl)
    try simp only [Act.put]
    refine wpAnyH_done (by kernel_rfl) ?_ _
    have hsz := hbel1.size
    have hbel2 : Below w.heap.size w wz := ((hbel1.drew).alloc (by simpa using hsz) _).trans hbz
    clear hbz
    go_wp2
    go_roundw
    case rel => exact ⟨i + 1, B, by omega, by go_num, rfl, by rw [HNX.out]; exact hown2, hbel2, Or.inr (by rw [HB.out]; congr 3)⟩
    case measure => simp [intOf]; omega
   ·have hB : B0 = cBlock K.data.toList (C + UInt32.ofNat (i / 64)) N.data.toList := by
     rcases hor with h | h
     ·omega
     ·rw [h]; congr 3; omega
    have hcm : True := trivial
    have ht : ((i : Int) % 64 == 0) = false := by simp; omega
    have HBX := hid hbx
    have hnx0 := hnx
    clear hnx
    obtain ⟨B, rfl⟩ : ∃ B, B = B0 := ⟨_, rfl⟩
    have hnx := hnx0
    rw [← hB] at hnx
    have hBl : (ByteArray.mk B.toArray).size = 64 := by show B.toArray.size = 64; rw [List.size_toArray, hB, length_cBlock]
    have hbyl : i % 64 < (ByteArray.mk B.toArray).size := by rw [hBl]; omega
    have hby := byte_at ⟨B.toArray⟩ (i % 64) hbyl
    obtain ⟨y, hy⟩ : ∃ y, y = B.getD (i % 64) 0 := ⟨_, rfl⟩
    rw [← hy] at hnx
    have HB := hid (show B = cBlock K.data.toList (C + UInt32.ofNat (i / 64)) N.data.toList from hB)
    have HNX := hid hnx
    have hbz : (i : Int).tmod 64 < (B.length : Int) := by rw [htm, hB, length_cBlock]; omega
    have HV : Hid (∀ g0 g1, Value.int .u8 (bits .xor .u8 ((S[i]'g0).toNat : Int) (((ByteArray.mk B.toArray)[((i : Int).tmod 64).toNat]'g1).toNat : Int)) = U8 (x ^^^ y)) := hid (by
     intro g0 g1
     have t1 : ((i : Int).tmod 64).toNat = i % 64 := by rw [htm]; omega
     have e1 : ((S[i]'g0).toNat : Int) = n8 x := HBX.out
     have e2 : (((ByteArray.mk B.toArray)[((i : Int).tmod 64).toNat]'g1).toNat : Int) = n8 y := by
      simp only [t1, hby, hy]
     rw [e1, e2, xor_n8])
    clear hnx hB hy hby hBl htm hx hbx hln hor hcm
    clear hnx0
    go_wp2
    refine wp_region_held_drew (S := fun _ => True) (by kernel_rfl) trivial (fun hHeldv => ?_)
    refine wpAnyH_take (i := 0) (oi := _) (v := ?vv0) rfl (by kernel_rfl) (by kernel_rfl) (by kernel_rfl) (fun _ _ _ h => h) (Or.inl ⟨by rfl, ?hyv0⟩) hHeldv ?_
    case hyv0 => (intro w hSw; go_simp; rfl)
    try simp only [Act.put]
    refine wpAnyH_take (i := 1) (oi := _) (v := ?vv1) rfl (by kernel_rfl) (by kernel_rfl) (by kernel_rfl) (fun _ _ _ h => h) (Or.inl ⟨by rfl, ?hyv1⟩) hHeldv ?_
    case hyv1 => (intro w hSw; go_simp; rfl)
    try simp only [Act.put]
    refine wpAnyH_take (i := 2) (oi := _) (v := ?vv2) rfl (by kernel_rfl) (by kernel_rfl) (by kernel_rfl) (fun _ _ _ h => h) (Or.inl ⟨by rfl, ?hyv2⟩) hHeldv ?_
    case hyv2 => (intro w hSw; go_simp; rfl)
    try simp only [Act.put]
    refine wpAnyH_take (i := 3) (oi := _) (v := ?vv3) rfl (by kernel_rfl) (by kernel_rfl) (by kernel_rfl) (fun _ _ _ h => h) (Or.inl ⟨by rfl, ?hyv3⟩) hHeldv ?_
    case hyv3 => (intro w hSw; go_simp; rfl)
    try simp only [Act.put]
    refine wpAnyH_take (i := 4) (oi := _) (v := ?vv4) rfl (by kernel_rfl) (by kernel_rfl) (by kernel_rfl) (fun _ _ _ h => h) (Or.inl ⟨by rfl, ?hyv4⟩) hHeldv ?_
    case hyv4 => (intro w hSw; go_simp; rfl)
    try simp only [Act.put]
    refine wpAnyH_take (i := 5) (oi := _) (v := ?vv5) rfl (by kernel_rfl) (by kernel_rfl) (by kernel_rfl) (fun _ _ _ h => h) (Or.inl ⟨by rfl, ?hyv5⟩) hHeldv ?_
    case hyv5 => (intro w hSw; go_simp; rfl)
    try simp only [Act.put]
    refine wpAnyH_take (i := 6) (oi := _) (v := ?vv6) rfl (by kernel_rfl) (by kernel_rfl) (by kernel_rfl) (fun _ _ _ h => h) (Or.inl ⟨by rfl, ?hyv6⟩) hHeldv ?_
    case hyv6 => (intro w hSw; go_simp; rfl)
    try simp only [Act.put]
    refine wpAnyH_take (i := 7) (oi := _) (v := ?vv7) rfl (by kernel_rfl) (by kernel_rfl) (by kernel_rfl) (fun _ _ _ h => h) (Or.inl ⟨by rfl, ?hyv7⟩) hHeldv ?_
    case hyv7 => (intro w hSw; go_simp; rfl)
    try simp only [Act.put]
    refine wpAnyH_take (i := 8) (oi := _) (v := ?vv8) rfl (by kernel_rfl) (by kernel_rfl) (by kernel_rfl) (fun _ _ _ h => h) (Or.inl ⟨by rfl, ?hyv8⟩) hHeldv ?_
    case hyv8 => (intro w hSw; go_simp; rfl)
    try simp only [Act.put]
    refine wpAnyH_ready (rs := [9]) (by kernel_rfl) (by simp) ?_
    refine AllReadyH.cons (o := _) rfl (fun Kc hcont => ?_) AllReadyH.nil
    go_simp
    refine hcont.out _ _ trivial (fun hHeldv1 => ?_)
    clear hcont Kc
    refine wpAnyH_ready (rs := [10]) (by kernel_rfl) (by simp) ?_
    refine AllReadyH.cons (o := _) rfl (fun Kc hcont => ?_) AllReadyH.nil
    refine step_append_lit rfl (.tmp 30) (.tmp 39) 33 rfl w.heap.size 5 _ _ 1 U8 (fun _ => rfl) Tryz.underlying33 H8.out.1 H8.out.2.1 H8.out.2.2.1 H8.out.2.2.2 rfl (by omega) _ _ [x ^^^ y] 1 rfl rfl (hown.drew.alloc _) _ 0 1 rfl (new_lit _ _ _ _ (by rw [HV.out]; rfl)) (by rw [HLN.out]; omega) (by simp <;> exact Nat.le_succ_of_le hbel.size) ?_
    intro V2 wz hown2 _ hbz
    refine hcont.out _ _ trivial (fun hHeldv2 => ?_)
    clear hcont Kc
    refine wpAnyH_take (i := 11) (oi := _) (v := ?vv11) rfl (by kernel_rfl) (by kernel_rfl) (by kernel_rfl) (fun _ _ _ h => h) (Or.inl ⟨by rfl, ?hyv11⟩) hHeldv2 ?_
    case hyv11 => (intro w hSw; go_simp; rfl)
    try simp only [Act.put]
    refine wpAnyH_done (by kernel_rfl) ?_ _
    have hsz := hbel.size
    have hbel2 : Below w.heap.size w wz := ((hbel.drew).alloc (by simpa using hsz) _).trans hbz
    clear hbz
    go_wp2
    go_roundw
    case rel => exact ⟨i + 1, B, by omega, by go_num, rfl, by rw [HNX.out]; exact hown2, hbel2, Or.inr (by rw [HB.out]; congr 3)⟩
    case measure => simp [intOf]; omega
  ·have hd : decide ((i : Int) < (S.size : Int)) = false := by simp; omega
   rw [List.take_of_length_le (by rw [length_cXor]; show S.size ≤ i; omega)] at hown
   go_wp2_with (refine wpList_string_own rfl 33 9 5 (.tmp 41) rfl Tryz.underlying33 Tryz.underlying5 Tryz.underlying9 _ _ _ hown rfl ?_)
   go_ret
   exact ⟨rfl, hbel⟩
end Go.Proofs.YtdmlpblaelfdmaaGreatDoor
namespace Go.Proofs.YtdmlpblaelfdmaaGreatDoor
open Go.RowKit
end Go.Proofs.YtdmlpblaelfdmaaGreatDoor
namespace Go.Proofs.YtdmlpblaelfdmaaGreatDoor
open Go.RowKit
/-- The table of the quarter rounds, as a known block. -/
def qsTab : List Int := (List.range 32).map fun i => (qAt (i / 4) (i % 4) : Int)
def HQ (e : Nat) : List (Nat × Option ABlk) := [(22, some ⟨.aggI qsTab, e, false⟩)]
theorem qsTab_get (i j : Nat) (hi : i < 8) (hj : j < 4) : (AV.aggI qsTab).list[4 * i + j]? = some (.i64 (qAt i j : Int)) := by
  have h : 4 * i + j < 32 := by omega
  simp only [AV.list, AV.parts, Option.getD_some, qsTab, List.map_map, List.getElem?_map, List.getElem?_range h, Option.map_some, Function.comp]
  rw [show (4 * i + j) / 4 = i by omega, show (4 * i + j) % 4 = j by omega]
theorem qat_of {E : Emb} {S : Nat → Prop} {e : Nat} {w : World} (hg : ∀ g, g < 400 → ∃ s, E g = some (g, s)) (hR : RH E S (hget (HQ e)) w) : QAt w := fun i j hi hj => by
  obtain ⟨y, h1, h2⟩ := tab_cell hR hg (g := 22) (by decide) (k := ⟨.aggI qsTab, e, false⟩) rfl (qsTab_get i j hi hj)
  rw [h1, h2.i64_inv]
theorem cxor_ev (e : Nat) (key nonce s : List UInt8) (ctr : UInt32) (hk : key.length = 32) (hn : nonce.length = 12) (hs : s.length ≤ 1000000) : Meets Tryz.prog 66 [.aggB key, .u32 ctr, .aggB nonce, .str s] (HQ e) (.str (cXor key ctr nonce s)) [] :=
  meets_of_walk fun E S vals w hg hl hr hR => by
    obtain ⟨a, b, c, d, rfl, ha, hb, hc, hd⟩ := args4 hl hr
    rw [relB_inv ha, hb.u32_inv, relB_inv hc, hd.str_inv]
    exact (cxor_any key nonce ctr ⟨s.toArray⟩ w hk hn (by simpa [ByteArray.size] using hs) (qat_of hg hR)).mono fun ed w' ⟨h1, h2⟩ => ⟨_, h1, .str _, h2⟩
theorem cblock_ev (e : Nat) (key nonce : List UInt8) (ctr : UInt32) (hk : key.length = 32) (hn : nonce.length = 12) : Meets Tryz.prog 103 [.aggB key, .u32 ctr, .aggB nonce] (HQ e) (.aggB (cBlock key ctr nonce)) [] :=
  meets_of_walk fun E S vals w hg hl hr hR => by
    obtain ⟨a, b, c, rfl, ha, hb, hc⟩ := args3 hl hr
    rw [relB_inv ha, hb.u32_inv, relB_inv hc]
    exact (cblock_any key nonce ctr w hk hn (qat_of hg hR)).mono fun ed w' ⟨h1, h2⟩ => ⟨_, h1, rel_bytes _ _, h2⟩
theorem refCxor_ev (K N S : List UInt8) (C : UInt32) (q : UInt64) (hq : q.toNat = C.toNat) (hK : K.length = 32) (hN : N.length = 12) (hS : S.length ≤ 1000000) : Meets Tryz.prog 71 [.str K, .u64 q, .str N, .str S] [] (.str (cXor K C N S)) [] :=
  meets_of_walk fun E _ vals w hg hl hr hR => by
    obtain ⟨a, b, c, d, rfl, ha, hb, hc, hd⟩ := args4 hl hr
    rw [ha.str_inv, hb.u64_inv, hc.str_inv, hd.str_inv, hq]
    exact (refCxor_any ⟨K.toArray⟩ ⟨N.toArray⟩ ⟨S.toArray⟩ C w (by simpa [ByteArray.size] using hK) (by simpa [ByteArray.size] using hN) (by simpa [ByteArray.size] using hS)).mono fun ed w' ⟨h1, h2⟩ => ⟨_, h1, .str _, h2⟩
end Go.Proofs.YtdmlpblaelfdmaaGreatDoor
