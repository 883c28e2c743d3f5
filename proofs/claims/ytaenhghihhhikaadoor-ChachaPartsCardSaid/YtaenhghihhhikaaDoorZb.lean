/-
  Specifications of layer 3 over abstract values: from the walks over worlds.
-/
import Derived.Test.YtaenhghihhhikaaDoorAty
import Derived.Test.YtaenhghihhhikaaDoorAw
import Derived.Test.YtaenhghihhhikaaDoorYx
import Derived.Test.YtaenhghihhhikaaDoorXx
import Derived.Test.YtaenhghihhhikaaDoorHw
namespace Go.Proofs.YtaenhghihhhikaaDoor
open Go.RowKit
/-- The table of the quarter rounds, as a known block. -/
def qsTab : List Int := (List.range 32).map fun i => (qAt (i / 4) (i % 4) : Int)
def HQ (e : Nat) : List (Nat × Option ABlk) := [(0, some ⟨.aggI qsTab, e, false⟩)]
theorem qsTab_get (i j : Nat) (hi : i < 8) (hj : j < 4) : (AV.aggI qsTab).list[4 * i + j]? = some (.i64 (qAt i j : Int)) := by
  have h : 4 * i + j < 32 := by omega
  simp only [AV.list, AV.parts, Option.getD_some, qsTab, List.map_map, List.getElem?_map, List.getElem?_range h, Option.map_some, Function.comp]
  rw [show (4 * i + j) / 4 = i by omega, show (4 * i + j) % 4 = j by omega]
theorem qat_of {E : Emb} {S : Nat → Prop} {e : Nat} {w : World} (hg : ∀ g, g < 500 → ∃ s, E g = some (g, s)) (hR : RH E S (hget (HQ e)) w) : QAt w := fun i j hi hj => by
  obtain ⟨y, h1, h2⟩ := tab_cell hR hg (g := 0) (by decide) (k := ⟨.aggI qsTab, e, false⟩) rfl (qsTab_get i j hi hj)
  rw [h1, h2.i64_inv]
theorem awake3_ev (e : Nat) : Meets Tryd.prog 12 [] (HQ e) (.bool true) [] :=
  meets_of_walk fun E S vals w hg hl hr hR => by
    rw [args0 (E := E) hl]
    exact (awake3_any w (qat_of hg hR)).mono fun ed w' ⟨h1, h2⟩ => ⟨_, h1, .bool _, h2⟩
theorem u32_rel (E : Emb) (c : UInt32) : Rel E (.u32 c) (U32 c) := .u32 c
theorem cxor_ev (e : Nat) (key nonce s : List UInt8) (ctr : UInt32) (hk : key.length = 32) (hn : nonce.length = 12) (hs : s.length ≤ 1000000) : Meets Tryd.prog 16 [.aggB key, .u32 ctr, .aggB nonce, .str s] (HQ e) (.str (cXor key ctr nonce s)) [] :=
  meets_of_walk fun E S vals w hg hl hr hR => by
    obtain ⟨a, b, c, d, rfl, ha, hb, hc, hd⟩ := args4 hl hr
    rw [relB_inv ha, hb.u32_inv, relB_inv hc, hd.str_inv]
    exact (cxor_any key nonce ctr ⟨s.toArray⟩ w hk hn (by simpa [ByteArray.size] using hs) (qat_of hg hR)).mono fun ed w' ⟨h1, h2⟩ => ⟨_, h1, .str _, h2⟩
theorem cblock_ev (e : Nat) (key nonce : List UInt8) (ctr : UInt32) (hk : key.length = 32) (hn : nonce.length = 12) : Meets Tryd.prog 13 [.aggB key, .u32 ctr, .aggB nonce] (HQ e) (.aggB (cBlock key ctr nonce)) [] :=
  meets_of_walk fun E S vals w hg hl hr hR => by
    obtain ⟨a, b, c, rfl, ha, hb, hc⟩ := args3 hl hr
    rw [relB_inv ha, hb.u32_inv, relB_inv hc]
    exact (cblock_any key nonce ctr w hk hn (qat_of hg hR)).mono fun ed w' ⟨h1, h2⟩ => ⟨_, h1, rel_bytes _ _, h2⟩
theorem refCxor_ev (K N S : List UInt8) (C : UInt32) (q : UInt64) (hq : q.toNat = C.toNat) (hK : K.length = 32) (hN : N.length = 12) (hS : S.length ≤ 1000000) : Meets Tryd.prog 17 [.str K, .u64 q, .str N, .str S] [] (.str (cXor K C N S)) [] :=
  meets_of_walk fun E _ vals w hg hl hr hR => by
    obtain ⟨a, b, c, d, rfl, ha, hb, hc, hd⟩ := args4 hl hr
    rw [ha.str_inv, hb.u64_inv, hc.str_inv, hd.str_inv, hq]
    exact (refCxor_any ⟨K.toArray⟩ ⟨N.toArray⟩ ⟨S.toArray⟩ C w (by simpa [ByteArray.size] using hK) (by simpa [ByteArray.size] using hN) (by simpa [ByteArray.size] using hS)).mono fun ed w' ⟨h1, h2⟩ => ⟨_, h1, .str _, h2⟩
theorem cut_ev (s : List UInt8) (n : Nat) (hs : s.length ≤ maxLen) (hn : n ≤ 1000) : Meets Tryd.prog 15 [.str s, .i64 n] [] (.str (s.take n)) [] :=
  meets_of_walk fun E _ vals w hg hl hr hR => by
    obtain ⟨a, b, rfl, ha, hb⟩ := args2 hl hr
    rw [ha.str_inv, hb.i64_inv]
    refine (cut_any ⟨s.toArray⟩ n w (by simpa [ByteArray.size] using hs) (by omega) (by omega)).mono fun ed w' hh => ?_
    obtain ⟨t, h1, h2, h3, rfl⟩ := hh
    refine ⟨_, h1, ?_, Below.refl _ _⟩
    have : t = ⟨(s.take n).toArray⟩ := by
      apply ByteArray.ext
      apply Array.ext'
      simpa using h3
    rw [this]; exact .str _
theorem hex_ev (s : List UInt8) (hs : s.length ≤ 1000000) : Meets Tryd.prog 28 [.str s] [] (.str (hexL s)) [] :=
  meets_of_walk fun E _ vals w hg hl hr hR => by
    obtain ⟨a, rfl, ha⟩ := args1 hl hr
    rw [ha.str_inv]
    exact (hex_any ⟨s.toArray⟩ w (by simpa [ByteArray.size] using hs)).mono fun ed w' ⟨h1, h2⟩ => ⟨_, h1, .str _, h2⟩
end Go.Proofs.YtaenhghihhhikaaDoor
