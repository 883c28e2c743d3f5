/-
  Texts of this claim.
-/
import Derived.Test.YtcnjekoidgefpaaGreatDoorGEV
import Derived.Test.YtcnjekoidgefpaaGreatDoorGSV
namespace Go.Proofs.YtcnjekoidgefpaaGreatDoor
open Go.RowKit
def stR (s : St64) : List UInt64 := [s.v0, s.v1, s.v2, s.v3, s.v4, s.v5, s.v6, s.v7]
set_option maxRecDepth 100000 in
theorem rcut32_ev (x : UInt64) : kZ Tryz.prog 125 [.u64 x, .i64 32] [] (.u64 (rcut 32 x)) [] := by
 refine mt (nt := 10) Tryz.func125 rfl rfl rfl <| .r <| .s rfl rfl <| .nil <| .seq <| .r <| .m rfl rfl <| .x (gZ rfl rfl rfl) rfl <| .nil <| .cond_true rfl (rfl) <| .r <| .m rfl rfl <| .x (op_rem64 rfl rfl (by decide)) rfl <| .s rfl rfl <| .nil <| .ret ?_
 exact yZ rfl (.inl rfl) rfl rfl trivial
set_option maxRecDepth 100000 in
theorem rcut64_ev (x : UInt64) : kZ Tryz.prog 125 [.u64 x, .i64 64] [] (.u64 (rcut 64 x)) [] := by
 refine mt (nt := 10) Tryz.func125 rfl rfl rfl <| .r <| .s rfl rfl <| .nil <| .seq <| .r <| .m rfl rfl <| .x (gZ rfl rfl rfl) rfl <| .nil <| .cond_false rfl (rfl) <| .skip <| .r <| .m rfl rfl <| .s rfl rfl <| .nil <| .ret ?_
 exact yZ rfl (.inl rfl) rfl rfl trivial
theorem sR (x : UInt64) (W : Nat) (hW : W = 32 ∨ W = 64) : kZ Tryz.prog 125 [.u64 x, .i64 ((W : Nat) : Int)] [] (.u64 (rcut W x)) [] := by
 rcases hW with rfl | rfl
 ·exact rcut32_ev x
 ·exact rcut64_ev x
set_option maxRecDepth 100000 in
theorem sS (x : UInt64) (n W : Nat) (h1 : 1 ≤ n) (h2 : n < W) (hW : W = 32 ∨ W = 64) : kZ Tryz.prog 127 [.u64 x, .i64 ((n : Nat) : Int), .i64 ((W : Nat) : Int)] [] (.u64 (oI W x n)) [] := by
 refine mt (nt := 18) Tryz.func127 rfl rfl rfl <| .r <| .s rfl rfl <| .nil <| .seq <| .drawn [[], [], [0, 1], [], [], [], [4, 5], [3, 4, 5, 6], [0, 1, 2, 3, 4, 5, 6, 7], [], [0, 1, 2, 3, 4, 5, 6, 7, 8, 9], [0, 1, 2, 3, 4, 5, 6, 7, 8, 9, 10]] [10] [] (by kernel_rfl) (by kernel_rfl) rfl <| .m rfl rfl <| .m rfl rfl <| .x rfl (lX (n := n) rfl rfl rfl (by omega)) <| .m rfl rfl <| .m rfl rfl <| .m rfl rfl <| .x rfl (tY rfl rfl ⟨by omega, by omega⟩) <| .as (.i64 ((W - n : Nat) : Int)) (congrArg AV.i64 (by omega)) <| .x rfl (aR (n := W - n) rfl rfl rfl (by omega)) <| .x rfl (mZ rfl rfl rfl) <| .m rfl rfl <| .x rfl (aZ (U := []) [] [] (sR ((x >>> UInt64.ofNat n) ||| (x <<< UInt64.ofNat (W - n))) W hW) Tryz.func125 (by kernel_rfl) rfl rfl rfl (⟨⟨_, rfl, rfl, rfl⟩, ⟨_, rfl, rfl, rfl⟩, trivial⟩) (trivial) (trivial) (trivial) rfl) <| .x rfl (uZ rfl) <| .nil <| .ret ?_
 exact yZ rfl (.inl rfl) rfl rfl trivial
set_option maxRecDepth 100000 in
theorem rthree_t (x : UInt64) (a b c W : Nat) (ha : 1 ≤ a) (hb : 1 ≤ b) (hc : 1 ≤ c) (ha2 : a < W) (hb2 : b < W) (hc2 : c < W) (hW : W = 32 ∨ W = 64) : kZ Tryz.prog 124 [.u64 x, .i64 ((a : Nat) : Int), .i64 ((b : Nat) : Int), .i64 ((c : Nat) : Int), .i64 ((W : Nat) : Int), .bool true] [] (.u64 (xV W x a b c true)) [] := by
 refine mt (nt := 33) Tryz.func124 rfl rfl rfl <| .r <| .s rfl rfl <| .nil <| .r <| .m rfl rfl <| .m rfl rfl <| .m rfl rfl <| .x (aZ (U := []) [] [] (sS x c W (by omega) (by omega) hW) Tryz.func127 (by kernel_rfl) rfl rfl rfl (⟨⟨_, rfl, rfl, rfl⟩, ⟨_, rfl, rfl, rfl⟩, ⟨_, rfl, rfl, rfl⟩, trivial⟩) (trivial) (trivial) (trivial) rfl) rfl <| .s rfl rfl <| .nil <| .seq <| .r <| .m rfl rfl <| .nil <| .cond_true rfl (rfl) <| .region <| .m rfl rfl <| .m rfl rfl <| .x (lX (n := c) rfl rfl rfl (by omega)) rfl <| .s rfl rfl <| .nil <| .r <| .m rfl rfl <| .m rfl rfl <| .m rfl rfl <| .x (aZ (U := []) [] [] (sS x a W (by omega) (by omega) hW) Tryz.func127 (by kernel_rfl) rfl rfl rfl (⟨⟨_, rfl, rfl, rfl⟩, ⟨_, rfl, rfl, rfl⟩, ⟨_, rfl, rfl, rfl⟩, trivial⟩) (trivial) (trivial) (trivial) rfl) rfl <| .m rfl rfl <| .m rfl rfl <| .m rfl rfl <| .x (aZ (U := []) [] [] (sS x b W (by omega) (by omega) hW) Tryz.func127 (by kernel_rfl) rfl rfl rfl (⟨⟨_, rfl, rfl, rfl⟩, ⟨_, rfl, rfl, rfl⟩, ⟨_, rfl, rfl, rfl⟩, trivial⟩) (trivial) (trivial) (trivial) rfl) rfl <| .x (mZ rfl rfl rfl) rfl <| .m rfl rfl <| .x (mZ rfl rfl rfl) rfl <| .s rfl rfl <| .nil <| .ret ?_
 exact yZ rfl (.inl rfl) rfl rfl trivial
set_option maxRecDepth 100000 in
theorem rthree_f (x : UInt64) (a b c W : Nat) (ha : 1 ≤ a) (hb : 1 ≤ b) (hc : 1 ≤ c) (ha2 : a < W) (hb2 : b < W) (hc2 : c < W) (hW : W = 32 ∨ W = 64) : kZ Tryz.prog 124 [.u64 x, .i64 ((a : Nat) : Int), .i64 ((b : Nat) : Int), .i64 ((c : Nat) : Int), .i64 ((W : Nat) : Int), .bool false] [] (.u64 (xV W x a b c false)) [] := by
 refine mt (nt := 33) Tryz.func124 rfl rfl rfl <| .r <| .s rfl rfl <| .nil <| .r <| .m rfl rfl <| .m rfl rfl <| .m rfl rfl <| .x (aZ (U := []) [] [] (sS x c W (by omega) (by omega) hW) Tryz.func127 (by kernel_rfl) rfl rfl rfl (⟨⟨_, rfl, rfl, rfl⟩, ⟨_, rfl, rfl, rfl⟩, ⟨_, rfl, rfl, rfl⟩, trivial⟩) (trivial) (trivial) (trivial) rfl) rfl <| .s rfl rfl <| .nil <| .seq <| .r <| .m rfl rfl <| .nil <| .cond_false rfl (rfl) <| .skip <| .r <| .m rfl rfl <| .m rfl rfl <| .m rfl rfl <| .x (aZ (U := []) [] [] (sS x a W (by omega) (by omega) hW) Tryz.func127 (by kernel_rfl) rfl rfl rfl (⟨⟨_, rfl, rfl, rfl⟩, ⟨_, rfl, rfl, rfl⟩, ⟨_, rfl, rfl, rfl⟩, trivial⟩) (trivial) (trivial) (trivial) rfl) rfl <| .m rfl rfl <| .m rfl rfl <| .m rfl rfl <| .x (aZ (U := []) [] [] (sS x b W (by omega) (by omega) hW) Tryz.func127 (by kernel_rfl) rfl rfl rfl (⟨⟨_, rfl, rfl, rfl⟩, ⟨_, rfl, rfl, rfl⟩, ⟨_, rfl, rfl, rfl⟩, trivial⟩) (trivial) (trivial) (trivial) rfl) rfl <| .x (mZ rfl rfl rfl) rfl <| .m rfl rfl <| .x (mZ rfl rfl rfl) rfl <| .s rfl rfl <| .nil <| .ret ?_
 exact yZ rfl (.inl rfl) rfl rfl trivial
set_option maxHeartbeats 4000000 in
set_option maxRecDepth 100000 in
theorem rk_ev (t : Nat) (h : t < 80) : kZ Tryz.prog 126 [.i64 ((t : Nat) : Int)] [] (.u64 (K512.getD t 0)) [] := by
 refine mt (nt := 7) Tryz.func126 rfl rfl rfl <| .r <| .s rfl rfl <| .nil <| .r <| .y (vZ (us := K512.map AV.u64) (c := .agg64 K512) Tryz.underlying125 qZ (by rfl) (by decide) (by decide) (by exact ⟨rfl, rfl, rfl, rfl, rfl, rfl, rfl, rfl, rfl, rfl, rfl, rfl, rfl, rfl, rfl, rfl, rfl, rfl, rfl, rfl, rfl, rfl, rfl, rfl, rfl, rfl, rfl, rfl, rfl, rfl, rfl, rfl, rfl, rfl, rfl, rfl, rfl, rfl, rfl, rfl, rfl, rfl, rfl, rfl, rfl, rfl, rfl, rfl, rfl, rfl, rfl, rfl, rfl, rfl, rfl, rfl, rfl, rfl, rfl, rfl, rfl, rfl, rfl, rfl, rfl, rfl, rfl, rfl, rfl, rfl, rfl, rfl, rfl, rfl, rfl, rfl, rfl, rfl, rfl, rfl, rfl, rfl, rfl, rfl, rfl, rfl, rfl, rfl, rfl, rfl, rfl, rfl, rfl, rfl, rfl, rfl, rfl, rfl, rfl, rfl, rfl, rfl, rfl, rfl, rfl, rfl, rfl, rfl, rfl, rfl, rfl, rfl, rfl, rfl, rfl, rfl, rfl, rfl, rfl, rfl, rfl, rfl, rfl, rfl, rfl, rfl, rfl, rfl, rfl, rfl, rfl, rfl, rfl, rfl, rfl, rfl, rfl, rfl, rfl, rfl, rfl, rfl, rfl, rfl, rfl, rfl, rfl, rfl, rfl, rfl, rfl, rfl, rfl, rfl, rfl, rfl, rfl, rfl, rfl, rfl, rfl, rfl, rfl, rfl, rfl, rfl, rfl, rfl, rfl, rfl, rfl, rfl, rfl, rfl, rfl, rfl, rfl, rfl, rfl, rfl, rfl, rfl, rfl, rfl, rfl, rfl, rfl, rfl, rfl, rfl, rfl, rfl, rfl, rfl, rfl, rfl, rfl, rfl, rfl, rfl, rfl, rfl, rfl, rfl, rfl, rfl, rfl, rfl, rfl, rfl, rfl, rfl, rfl, rfl, rfl, rfl, rfl, rfl, rfl, rfl, rfl, rfl, rfl, rfl, rfl, rfl, rfl, rfl, rfl, rfl, rfl, rfl, rfl, rfl, rfl, rfl, rfl, rfl, rfl, rfl, trivial⟩) (by rfl)) rfl <| .m rfl rfl <| .x (cY Tryz.underlying125 qZ.sz rfl rfl rfl (by show t < 80; omega)) rfl <| .x (fZ Tryz.underlying52 rfl rfl rfl rfl (by show t < K512.length; exact h)) rfl <| .s rfl rfl <| .nil <| .ret ?_
 exact yZ rfl (.inl rfl) rfl rfl trivial
set_option maxRecDepth 100000 in
theorem rstart_ev  : kZ Tryz.prog 113 [] [] (.sl 1000 0 8 1) [(1000, some ⟨.agg64 (stR zS), 52, true⟩)] := by
 refine mt (nt := 2) Tryz.func113 rfl rfl rfl <| .r <| .s rfl rfl <| .nil <| .r <| .y (vZ (us := [_, _, _, _, _, _, _, _]) (c := .agg64 [_, _, _, _, _, _, _, _]) Tryz.underlying125 qZ rfl (by decide) (by decide) ⟨rfl, rfl, rfl, rfl, rfl, rfl, rfl, rfl, rfl, rfl, rfl, rfl, rfl, rfl, rfl, rfl, rfl, rfl, rfl, rfl, rfl, rfl, rfl, rfl, trivial⟩ rfl) rfl <| .s rfl rfl <| .nil <| .ret ?_
 exact yZ rfl (.inl rfl) rfl rfl ⟨rfl, trivial⟩
end Go.Proofs.YtcnjekoidgefpaaGreatDoor
